"""Making blocks ready to be set (points 67 to 71)."""

from folio.counting import label_numbers, numbers_of_blocks, own_labels
from folio.fonts import HEAD_FONT, NOTE_FONT, TEXT_FONT

LEAST_ROOM = 1


def ready_blocks(blocks, rooms):
    """The ready blocks of blocks, with the rooms of the labels."""
    maker = ReadyMaker(blocks, rooms)
    return [maker.ready_block(index) for index in range(len(blocks))]


def lead_of(name, number):
    """What stands before the body of a block, by its kind and its number (point 68)."""
    if name == "head":
        return (("run", HEAD_FONT, number), ("tie", HEAD_FONT))
    if name == "item":
        return (("run", TEXT_FONT, "*"), ("tie", TEXT_FONT))
    if name == "figure":
        word = (("run", NOTE_FONT, "Figure"), ("tie", NOTE_FONT))
        return word + (("run", NOTE_FONT, number + ":"), ("tie", NOTE_FONT))
    if name == "table":
        return (("run", NOTE_FONT, "Table"), ("tie", NOTE_FONT), ("run", NOTE_FONT, number))
    return ()


def entry_atom(atom):
    """An atom of the body of a heading, as it stands in a list of contents."""
    if atom[0] == "line":
        return ("space", TEXT_FONT)
    if atom[1] == HEAD_FONT:
        return (atom[0], TEXT_FONT) + atom[2:]
    return atom


class ReadyMaker:
    """Makes the blocks of a book ready, with the rooms of the labels."""

    def __init__(self, blocks, rooms):
        self.blocks = list(blocks)
        self.rooms = rooms
        self.numbers = numbers_of_blocks(blocks)
        self.given = label_numbers(blocks)
        self.own_labels = own_labels(blocks)

    def ready_block(self, index):
        """The ready block of the block with this number."""
        kind, body, notes, rows = self.blocks[index]
        numbers = self.numbers[index]
        label = self.own_labels[index]
        before = () if label is None else (("label", label),)
        return (
            kind,
            lead_of(kind[0], numbers.own),
            before + self.atoms_of(body, numbers.notes),
            tuple([self.ready_note(note, number) for note, number in zip(notes, numbers.notes)]),
            tuple([self.ready_row(row, numbers.notes) for row in rows]),
            self.entries() if kind[0] == "contents" else (),
        )

    def ready_note(self, note, number):
        """The atoms of a note with its number."""
        return (("run", NOTE_FONT, number), ("tie", NOTE_FONT)) + self.atoms_of(note, [])

    def ready_row(self, row, note_numbers):
        """A row of a table, with atoms in its cells."""
        return tuple([(columns, self.atoms_of(pieces, note_numbers)) for columns, pieces in row])

    def atoms_of(self, pieces, note_numbers):
        """The atoms of pieces, in a block of which the notes have these numbers (point 69)."""
        found = []
        for piece in pieces:
            if piece[0] == "note":
                found.append(("run", NOTE_FONT, note_numbers[piece[2]]))
                found.append(("note", piece[2]))
            elif piece[0] == "number":
                found.append(("run", piece[1], self.given[piece[2]]))
            elif piece[0] == "page":
                found.append(self.page_atom(piece[1], piece[2]))
            else:
                found.append(piece)
        return tuple(found)

    def page_atom(self, font, label):
        """The atom for the page of a label."""
        return ("page", font, self.rooms.get(label, LEAST_ROOM), label)

    def entries(self):
        """The entries of a list of contents, one for each heading of the book (point 70)."""
        heads = [index for index, label in enumerate(self.own_labels) if label is not None]
        return tuple([self.entry_of(index) for index in heads])

    def entry_of(self, index):
        """The entry of the heading with this number of its block."""
        kind, body, _, _ = self.blocks[index]
        pieces = [piece for piece in body if piece[0] not in ("label", "note")]
        atoms = [entry_atom(atom) for atom in self.atoms_of(pieces, [])]
        lead = (("run", TEXT_FONT, self.numbers[index].own), ("tie", TEXT_FONT))
        return (kind[1], lead + tuple(atoms), self.page_atom(TEXT_FONT, self.own_labels[index]))
