"""Points 72 to 85 word by word, to compare books with; it is made of the points before them."""

from folio.counting import label_numbers
from folio.pages import first_rows, page_content, page_ends, page_items, page_rows, pages_of
from folio.reading import read
from folio.ready import ready_blocks
from folio.blocks import set_block

import page_oracle


def rows_to_take(items, kept):
    c = 0
    while c < len(items) and c < len(kept) and items[c] == kept[c]:
        c += 1
    if items == kept:
        return len(items) + 1
    return c + 1 if c < len(items) and c < len(kept) else max(c, 1)


def lines_on(blocks, items, page):
    """Tuples (block, line) of the lines on a page, those of floats first."""
    start, end, first, last, _ = page
    floats = [item[1] for item in items if item[0] == "float"]
    found = [(number, line) for number in floats[first:last] for line in range(len(blocks[number][0]))]
    return found + [(item[1], item[2]) for item in items[start:end] if item[0] == "line"]


def labels_on(blocks, items, page):
    return [label for number, line in lines_on(blocks, items, page) for label in blocks[number][0][line][3]]


def pages_of_labels(blocks, items, pages):
    found = {}
    for index, page in reversed(list(enumerate(pages))):
        found.update({label: index + 1 for label in labels_on(blocks, items, page)})
    return found


class Model:
    """A layout; it is made with what is kept of the layouts before."""

    def __init__(self, style, sources, kept=None):
        kept_ready, kept_tables = kept or ([], [])
        self.style = style
        self.blocks = [read(text) for text in sources]
        ready_before, tables = [], []
        blocks_set = rows_made = rounds = 0
        rooms = {}
        while True:
            rounds += 1
            ready = ready_blocks(self.blocks, rooms)
            for block in ready:
                if block not in kept_ready and block not in ready_before:
                    blocks_set += 1
                if block not in ready_before:
                    ready_before.append(block)
            self.set_blocks = [set_block(style, block) for block in ready]
            self.items = page_items(style, self.set_blocks)
            taken = max([rows_to_take(self.items, table) for table in kept_tables + tables], default=1)
            rows_made += len(self.items) + 1 - taken
            tables.append(self.items)
            self.cost, self.way = page_ends(page_rows(style, self.items, first_rows()))
            self.pages = pages_of(style, self.items, self.way)
            self.labels = pages_of_labels(self.set_blocks, self.items, self.pages)
            if all(len(str(page)) <= rooms.get(label, 1) for label, page in self.labels.items()):
                break
            rooms = {label: max(rooms.get(label, 1), len(str(page))) for label, page in self.labels.items()}
        self.rooms = rooms
        self.kept = (ready_before, tables)
        self.result = (len(self.pages), rounds, blocks_set, rows_made)

    def draw(self, number):
        """The height and the draws of a page (points 84 and 85)."""
        start, end, first, last, _ = page = self.pages[number - 1]
        height = max(self.style.height, sum(page_oracle.parts(self.style, self.items, *page[:4])))
        content = page_content(self.items, start, end)
        floats = [item[1] for item in self.items if item[0] == "float"][first:last]
        found, y = [], 0
        for block in floats:
            for line in self.set_blocks[block][0]:
                found += self.at(line[1], y)
                y += line[0]
            y += self.style.float_gap
        if content and content[0][5] > 0:
            lines, heads = self.set_blocks[content[0][1]][:2]
            for line in lines[:heads]:
                found += self.at(line[1], y)
                y += line[0]
        notes = []
        for item in content:
            if item[0] == "line":
                line = self.set_blocks[item[1]][0][item[2]]
                found += self.at(line[1], y)
                y += line[0]
                notes += line[2]
            elif item[0] == "space":
                y += item[1]
        return height, found + self.draw_notes(notes, height)

    def draw_notes(self, notes, height):
        total, style = sum(note[0] for note in notes), self.style
        found, y = [], height - total
        if total and 1 <= style.rule <= style.note_gap:
            above = height - total - style.note_gap + (style.note_gap - style.rule) // 2
            found.append(("rule", 0, above, style.width // 3, style.rule))
        for note in notes:
            found += self.at(note[1], y)
            y += note[0]
        return found

    def at(self, draws, down):
        found = []
        for kind, x, y, *more in draws:
            if kind == "page":
                font, figures, label = more
                digits = str(self.labels[label])
                x += (figures - len(digits)) * self.style.font(font).figure
                found.append(("text", x, y + down, font, tuple(ord(digit) for digit in digits)))
            else:
                found.append((kind, x, y + down, *more))
        return found

    def outline(self):
        found, numbers = [], label_numbers(self.blocks)
        for block, ready in zip(self.blocks, ready_blocks(self.blocks, {})):
            if block[0][0] == "head":
                title = ""
                for piece in block[1]:
                    if piece[0] == "run":
                        title += piece[2]
                    title += " " if piece[0] in ("space", "tie", "line") else ""
                    title += numbers[piece[2]] if piece[0] == "number" else ""
                    title += str(self.labels[piece[2]]) if piece[0] == "page" else ""
                found.append((block[0][1], ready[1][0][2], title.strip(), self.labels[f"#{len(found)}"]))
        return found

    def term_index(self):
        pages = {}
        for index, page in enumerate(self.pages):
            for label in labels_on(self.set_blocks, self.items, page):
                if label[0] == "!":
                    pages.setdefault(label[1:], set()).add(index + 1)
        found = []
        for term in sorted(pages):
            firsts = [page for page in sorted(pages[term]) if page - 1 not in pages[term]]
            lasts = [page for page in sorted(pages[term]) if page + 1 not in pages[term]]
            found.append((term, list(zip(firsts, lasts))))
        return found

    def page_costs(self):
        found = []
        for page in self.pages:
            found.append((*page[:4], *page_oracle.parts(self.style, self.items, *page[:4]), page[4]))
        return found

    def places_of(self, block):
        found = []
        for index, page in enumerate(self.pages):
            lines = [line for number, line in lines_on(self.set_blocks, self.items, page) if number == block]
            if lines:
                found.append((index + 1, min(lines), max(lines)))
        return found


def told_by_model(model):
    """Everything that is told of a layout."""
    numbers = label_numbers(model.blocks)
    return {
        "pages": [model.draw(number + 1) for number in range(len(model.pages))],
        "labels": {label: (numbers[label], model.labels[label]) for label in numbers},
        "outline": model.outline(),
        "terms": model.term_index(),
        "items": model.items,
        "ends": list(model.way),
        "cost": model.cost,
        "costs": model.page_costs(),
        "places": [model.places_of(block) for block in range(len(model.blocks))],
    }


def told_by_book(book):
    """The same of a book that is laid out."""
    labels = label_numbers([read(text) for text in book.sources()])
    return {
        "pages": [book.page(number + 1) for number in range(book.page_count())],
        "labels": {label: (book.number_of(label), book.page_of(label)) for label in labels},
        "outline": book.outline(),
        "terms": book.term_index(),
        "items": book.all_items(),
        "ends": book.all_ends(),
        "cost": book.total_cost(),
        "costs": book.page_costs(),
        "places": [book.places_of(block) for block in range(len(book.sources()))],
    }


WORDS = "the first of all ways leads from one page to another and back again without any cost".split()


def some_text(numbers, most, marks):
    """Words, with marks between them."""
    found = []
    for _ in range(numbers.randint(0, most)):
        word = numbers.choice(WORDS)
        kind = numbers.random()
        if kind < 0.1:
            word = "*" + word + "*"
        elif kind < 0.15:
            word += "{!" + numbers.choice(WORDS[:6]) + "}"
        elif kind < 0.3 and marks:
            word += marks.pop()
        elif kind < 0.33:
            word += "\\/" if kind < 0.31 else "~"
        found.append(word)
    return " ".join(found)


def some_source(numbers, marks, most=14):
    """A source text; marks is a list of marks of which some are used up."""
    sign = numbers.choice(("# ", "## ", "### ", "- ", "> ", "! ", "|", "|", "[contents]", "[page]", "", "", "", ""))
    if sign in ("[contents]", "[page]"):
        return sign
    if sign == "! ":
        return f"! {numbers.choice((0, 10, 30, 90))} " + some_text(numbers, 4, marks)
    if sign == "|":
        rows = [f"| {some_text(numbers, 3, marks)} | {some_text(numbers, 3, marks)} |" for _ in range(numbers.randint(1, 5))]
        if len(rows) > 2:
            rows.insert(numbers.choice((1, 1, 2)), "|-")
        return "\n".join(rows)
    text = some_text(numbers, 3 if sign.startswith("#") else most, marks)
    if numbers.random() < 0.3:
        text += "{^" + some_text(numbers, 5, marks) + "}"
    return sign + text


def some_style(numbers, font_class, style_class, width=None, height=None):
    def font():
        return font_class(
            line=numbers.choice((10, 10, 12)), space=numbers.choice((4, 6)), stretch=5, shrink=2,
            figure=numbers.choice((5, 7)), other=6, widths=[(105, 3), (119, 9)], kerns=[(119, 97, 2)],
            ligatures=[(102, 105, 300)],
        )
    return style_class(
        width=width or numbers.choice((60, 100, 150)), height=height or numbers.choice((40, 70, 120)),
        fonts=[font() for _ in range(numbers.choice((1, 3, 5)))], patterns=["1fr", "a1g", "n1o"],
        indent=numbers.choice((0, 12)), gap=numbers.choice((0, 6)), note_gap=numbers.choice((0, 4)),
        float_gap=numbers.choice((0, 5)), cell_gap=numbers.choice((0, 2)), rule=numbers.choice((0, 1, 3)),
        rag=numbers.choice((0, 30)), widow=numbers.choice((0, 100)), orphan=numbers.choice((0, 100)),
        wait=numbers.choice((0, 50)), hyphen_cost=20, justify=numbers.random() < 0.6,
    )
