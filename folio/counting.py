"""Numbers and labels (points 64 to 66)."""


def label_numbers(blocks):
    """A dict from the labels that blocks give to their numbers; index terms are left out."""
    found = {}
    for block, numbers in zip(blocks, numbers_of_blocks(blocks)):
        for label, number in labels_of_block(block, numbers):
            found.setdefault(label, number)
    return found


def label_fault(blocks):
    """The first fault of the labels as a tuple (block, label, what), or None."""
    given = {}
    for index, block in enumerate(blocks):
        for label in given_labels(block):
            if label in given:
                return (index, label, "twice")
            given[label] = True
    numbers = label_numbers(blocks)
    for index, block in enumerate(blocks):
        fault = reference_fault(block, numbers)
        if fault is not None:
            return (index, fault[0], fault[1])
    return None


def reference_fault(block, numbers):
    """The label and the fault of the first bad reference of a block, or None."""
    references = [piece for piece in pieces_of(block) if piece[0] in ("number", "page")]
    for _, _, label in references:
        if label not in numbers:
            return (label, "missing")
    for kind, _, label in references:
        if kind == "number" and numbers[label] == "":
            return (label, "unnumbered")
    return None


class Numbers:
    """The numbers of one block, all of them texts."""

    def __init__(self, own, section, notes):
        # Of a heading, a figure or a table; of other blocks it is the empty text.
        self.own = own
        # Of the last heading before the block.
        self.section = section
        self.notes = notes


class Counter:
    """Counts headings, figures, tables and notes, block by block."""

    def __init__(self):
        self.heads = [0, 0, 0]
        self.figures = 0
        self.tables = 0
        self.notes = 0
        self.section = ""

    def count_block(self, block):
        """The numbers of the next block."""
        kind, _, notes, _ = block
        section = self.section
        own = self.own_number(kind)
        if kind[0] == "head":
            self.section = own
        first = self.notes + 1
        self.notes += len(notes)
        return Numbers(own, section, [str(first + index) for index in range(len(notes))])

    def own_number(self, kind):
        """The number of a block of a kind."""
        if kind[0] == "head":
            level = kind[1]
            self.heads = self.heads[:level] + [0] * (len(self.heads) - level)
            self.heads[level - 1] += 1
            return ".".join([str(count) for count in self.heads[:level]])
        if kind[0] == "figure":
            self.figures += 1
            return str(self.figures)
        if kind[0] == "table":
            self.tables += 1
            return str(self.tables)
        return ""


def numbers_of_blocks(blocks):
    """The numbers of each block."""
    counter = Counter()
    return [counter.count_block(block) for block in blocks]


def own_label(heads):
    """The label of its own of the heading before which there are so many headings."""
    return "#" + str(heads)


def own_labels(blocks):
    """For each block the label of its own, or None if it is no heading."""
    found = []
    heads = 0
    for block in blocks:
        if block[0][0] == "head":
            found.append(own_label(heads))
            heads += 1
        else:
            found.append(None)
    return found


def is_term(label):
    """Whether a label is an index term."""
    return label.startswith("!")


def parts_of_block(block):
    """The body, the cells and the notes of a block, in this order; each is a tuple of pieces."""
    _, body, notes, rows = block
    return [body] + [cell[1] for row in rows for cell in row] + list(notes)


def pieces_of(block):
    """All pieces of a block: of its body, its cells and its notes."""
    return [piece for part in parts_of_block(block) for piece in part]


def names_in(pieces):
    """The labels among pieces, without index terms."""
    return [piece[1] for piece in pieces if piece[0] == "label" and not is_term(piece[1])]


def given_labels(block):
    """The labels that a block gives, in order."""
    return names_in(pieces_of(block))


def labels_of_block(block, numbers):
    """Tuples (label, number) of the labels that a block gives, in order (point 65)."""
    # Where a block has no number of its own, its labels have that of the section.
    own = numbers.section if numbers.own == "" else numbers.own
    parts = parts_of_block(block)
    part_numbers = [own] * (len(parts) - len(numbers.notes)) + numbers.notes
    return [(label, number) for part, number in zip(parts, part_numbers) for label in names_in(part)]
