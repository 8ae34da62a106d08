"""Points 48 to 58 word by word, to compare the program with; it is made of the points before them alone."""

from folio.breaking import LineStyle, break_lines
from folio.columns import columns, needs
from folio.items import items_of
from folio.setting import draw_line, line_height


def minus(one, other):
    return max(0, one - other)


def drawn_at(draws, right, down):
    return [(draw[0], draw[1] + right, draw[2] + down, *draw[3:]) for draw in draws]


class Setter:
    """Sets one block."""

    def __init__(self, style, ready):
        self.style = style
        self.kind, self.lead, self.body, self.notes, self.rows, self.entries = ready

    def ragged(self, width, first=0, rest=0):
        style = self.style
        return LineStyle(
            width=width, first=first, rest=rest, justify=False, tolerance=style.tolerance, rag=style.rag
        )

    def justified(self, width, first=0, rest=0):
        style = self.style
        return LineStyle(
            width=width, first=first, rest=rest, justify=style.justify, tolerance=style.tolerance, rag=style.rag
        )

    def lines(self, atoms, line_style, font):
        """The lines of a text (point 50), as dicts."""
        items = items_of(self.style, atoms)
        ends, _ = break_lines(items, line_style)
        found = []
        for start, end in zip([0] + ends, ends):
            height, draws = draw_line(self.style, line_style, items, start, end, font)
            found.append({"height": height, "draws": draws, **self.marks(items[start:end])})
        return found

    def marks(self, items):
        """The numbers of the notes that exist, and the labels of items and in the notes."""
        numbers = [item[1] for item in items if item[0] == "note" and item[1] < len(self.notes)]
        labels = [item[1] for item in items if item[0] == "label"]
        for number in numbers:
            labels += [atom[1] for atom in self.notes[number] if atom[0] == "label"]
        return {"notes": numbers, "labels": labels}

    def note_lines(self, number):
        items = items_of(self.style, self.notes[number])
        line_style = self.justified(self.style.width)
        ends, _ = break_lines(items, line_style)
        return [draw_line(self.style, line_style, items, start, end, 4) for start, end in zip([0] + ends, ends)]

    def set_note(self, number):
        y, draws = 0, []
        for height, drawn in self.note_lines(number):
            draws += drawn_at(drawn, 0, y)
            y += height
        return (y, tuple(draws))

    def set_all(self):
        lines = getattr(self, "set_" + self.kind[0])()
        made = tuple(
            (
                line["height"], tuple(line["draws"]), tuple(self.set_note(number) for number in line["notes"]),
                tuple(line["labels"]),
            )
            for line in lines
        )
        heads = min(self.kind[1], len(self.rows) - 1) if self.kind[0] == "table" and self.rows else 0
        return (made, heads, self.kind[0] == "figure", self.kind[0] == "page_end", self.kind[0] == "head")

    def all_atoms(self):
        return list(self.lead) + list(self.body)

    def set_para(self):
        return self.lines(self.all_atoms(), self.justified(self.style.width, self.style.indent), 0)

    def set_head(self):
        return self.lines(self.all_atoms(), self.ragged(self.style.width), 3)

    def set_quote(self):
        indent = self.style.indent
        return self.lines(self.all_atoms(), self.justified(self.style.width - indent, indent, indent), 0)

    def set_page_end(self):
        return []

    def set_item(self):
        lead = items_of(self.style, self.lead)
        d = max(self.style.indent, sum(item[1] for item in lead if item[0] in ("box", "page", "glue")))
        lines = self.lines(self.body, self.justified(self.style.width, d, d), 0)
        if not lead:
            return lines
        own = line_height(self.style, lead, 0, len(lead), 0)
        first = lines[0] if lines else {"height": 0, "draws": [], "notes": [], "labels": []}
        height = max(own, first["height"]) if lines else own
        draws, x = [], 0
        for item in lead:
            if item[0] in ("box", "page"):
                draw = {"box": "text", "page": "page"}[item[0]]
                y = height - self.style.font(item[2]).line
                draws.append((draw, x, y, item[2], *item[3:]))
            x += item[1] if item[0] in ("box", "page", "glue") else 0
        draws += drawn_at(first["draws"], 0, height - first["height"])
        marks = self.marks(lead)
        line = {
            "height": height, "draws": draws,
            "notes": marks["notes"] + first["notes"], "labels": marks["labels"] + first["labels"],
        }
        return [line] + lines[1:]

    def plain_line(self, height, draws):
        return {"height": height, "draws": draws, "notes": [], "labels": []}

    def caption(self):
        return self.lines(self.all_atoms(), self.ragged(self.style.width), 4)

    def lower(self, line, by):
        return {**line, "height": line["height"] + by, "draws": drawn_at(line["draws"], 0, by)}

    def set_figure(self):
        h, t, width = self.kind[1], self.style.rule, self.style.width
        if h <= 2 * t:
            frame = [("rule", 0, 0, width, h)]
        else:
            frame = [("rule", 0, 0, width, t), ("rule", 0, t, min(t, width), h - 2 * t)]
            frame += [("rule", width - t, t, t, h - 2 * t)] if width > 2 * t else []
            frame += [("rule", 0, h - t, width, t)]
        caption = self.caption()
        found = [self.plain_line(h, frame)]
        for number, line in enumerate(caption):
            line = self.lower(line, self.style.cell_gap) if number == 0 else line
            found.append({**line, "notes": []})
        for line in caption:
            for number in line["notes"]:
                found += [self.plain_line(height, draws) for height, draws in self.note_lines(number)]
        return found

    def set_contents(self):
        style = self.style
        found = self.lines(self.all_atoms(), self.ragged(style.width), 3)
        for level, atoms, (_, font, figures, label) in self.entries:
            p = figures * style.font(font).figure
            d = (level - 1) * style.indent
            width = minus(minus(style.width, p), style.font(0).space)
            lines = self.lines(atoms, self.ragged(width, d, d + style.indent), 0)
            high = style.font(font).line
            last = lines.pop() if lines else self.plain_line(high, [])
            height = max(high, last["height"])
            draws = drawn_at(last["draws"], 0, height - last["height"])
            draws.append(("page", minus(style.width, p), height - high, font, figures, label))
            found += lines + [{**last, "height": height, "draws": draws}]
        return found

    def set_table(self):
        caption = self.caption()
        rows = self.table_rows()
        if not caption or not rows:
            return caption + rows
        parts = caption + [self.lower(rows[0], self.style.cell_gap)]
        joined = self.plain_line(0, [])
        for part in parts:
            joined["draws"] = joined["draws"] + drawn_at(part["draws"], 0, joined["height"])
            joined["height"] += part["height"]
            joined["notes"] = joined["notes"] + part["notes"]
            joined["labels"] = joined["labels"] + part["labels"]
        return [joined] + rows[1:]

    def table_rows(self):
        style = self.style
        if not self.rows:
            return []
        rows = [[(max(1, span), atoms) for span, atoms in row] for row in self.rows]
        n = max(sum(span for span, _ in row) for row in rows)
        for row in rows:
            missing = n - sum(span for span, _ in row)
            if missing:
                row.append((missing, ()))
        g = style.rule + 2 * style.cell_gap
        demands = []
        for row in rows:
            for i, j, atoms in self.bounded(row):
                least, widest = needs(items_of(style, atoms))
                demands.append((i, j, least + g, widest + g))
        x = columns(demands, n, minus(style.width, style.rule))[2]
        right = minus(style.width, x[n] + style.rule) // 2
        found = []
        for number, row in enumerate(rows):
            line = self.row_line(row, x, n, g, number == len(rows) - 1)
            found.append({**line, "draws": drawn_at(line["draws"], right, 0)})
        return found

    def bounded(self, row):
        i = 0
        for span, atoms in row:
            yield i, i + span, atoms
            i += span

    def row_line(self, row, x, n, g, is_last):
        t, gap = self.style.rule, self.style.cell_gap
        cells = []
        for i, j, atoms in self.bounded(row):
            width = minus(x[j] - x[i], g)
            style = LineStyle(width=width, justify=False, tolerance=10000, rag=width)
            cells.append((i, self.lines(atoms, style, 0), items_of(self.style, atoms)))
        c = max([sum(line["height"] for line in lines) for _, lines, _ in cells], default=0)
        draws, notes, labels = [("rule", 0, 0, x[n] + t, t)], [], []
        for i, lines, items in cells:
            draws.append(("rule", x[i], t, t, c + 2 * gap))
            y = t + gap
            for line in lines:
                draws += drawn_at(line["draws"], x[i] + t + gap, y)
                y += line["height"]
            marks = self.marks(items)
            notes += marks["notes"]
            labels += marks["labels"]
        draws.append(("rule", x[n], t, t, c + 2 * gap))
        height = t + c + 2 * gap
        if is_last:
            draws.append(("rule", 0, height, x[n] + t, t))
            height += t
        return {"height": height, "draws": draws, "notes": notes, "labels": labels}


def set_block(style, ready):
    return Setter(style, ready).set_all()


def some_atoms(numbers, most, notes=0):
    """Atoms in an order in which they hardly ever stand in a real text."""
    def one():
        kind = numbers.choice(("run", "run", "run", "run", "space", "space", "space", "tie", "line", "label", "page", "note"))
        font = numbers.randint(0, 4)
        if kind == "run":
            return ("run", font, "".join(numbers.choice("abcdefgh-1") for _ in range(numbers.randint(1, 7))))
        if kind in ("space", "tie"):
            return (kind, font)
        if kind == "line":
            return ("line",)
        if kind == "page":
            return ("page", font, numbers.randint(1, 3), "p")
        if kind == "note" and notes > 0:
            return ("note", numbers.randint(0, notes))
        return ("label", numbers.choice(("x", "y", "z", "!t")))
    return tuple(one() for _ in range(numbers.randint(0, most)))


def some_ready(numbers):
    """A ready block of any kind."""
    names = ("para", "head", "quote", "item", "figure", "contents", "table", "table", "page_end")
    name = numbers.choice(names)
    kind = {"head": (2,), "figure": (numbers.choice((0, 3, 10, 40)),), "table": (numbers.randint(0, 3),)}.get(name, ())
    notes = tuple(some_atoms(numbers, 5) for _ in range(numbers.randint(0, 2)))
    lead = some_atoms(numbers, numbers.choice((0, 2, 4)), len(notes))
    body = some_atoms(numbers, numbers.choice((0, 6, 14)), len(notes))
    rows, entries = (), ()
    if name == "table":
        rows = tuple(
            tuple(
                (numbers.choice((0, 1, 1, 1, 2, 3)), some_atoms(numbers, 6, len(notes)))
                for _ in range(numbers.randint(0, 3))
            )
            for _ in range(numbers.randint(0, 4))
        )
    if name == "contents":
        entries = tuple(
            (numbers.randint(1, 3), some_atoms(numbers, 6, len(notes)), ("page", numbers.randint(0, 4), numbers.randint(1, 3), "e"))
            for _ in range(numbers.randint(0, 3))
        )
    return ((name, *kind), lead, body, notes, rows, entries)


def some_style(numbers, font_class, style_class):
    """A style with fonts of several heights."""
    def font():
        space = numbers.randint(0, 10)
        return font_class(
            line=numbers.randint(8, 20), space=space, stretch=numbers.randint(0, 10),
            shrink=numbers.randint(0, min(space, 5)), figure=numbers.randint(0, 8), other=numbers.randint(1, 8),
            ligatures=[(97, 98, 200)],
        )
    width = numbers.choice((12, 40, 70, 110))
    return style_class(
        width=width, height=100, fonts=[font() for _ in range(numbers.randint(1, 5))], patterns=["a1b", "d1e", "1gh"],
        indent=numbers.choice((0, 5, 11)), cell_gap=numbers.randint(0, 4), rule=numbers.choice((0, 1, 2, 7, 20)),
        rag=numbers.choice((0, 10, 40)), tolerance=numbers.choice((0, 100, 10000)),
        hyphen_cost=numbers.choice((0, 20)), justify=numbers.random() < 0.6,
    )
