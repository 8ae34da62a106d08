"""Setting tables (points 55 to 58)."""

from folio.breaking import LineStyle
from folio.columns import columns, needs
from folio.fonts import TEXT_FONT
from folio.items import items_of
from folio.textlines import lowered, marks_of, moved, stacked, text_lines

# A cell has ragged lines of which none is bad.
CELL_TOLERANCE = 10000


def table_lines(style, caption, rows, notes):
    """The lines of a table with these lines of its caption."""
    lines = Grid(style, rows, notes).lines()
    if not caption or not lines:
        return caption + lines
    return [joined([*caption, lowered(lines[0], style.cell_gap)])] + lines[1:]


def count_heads(heads, rows):
    """How many lines of a table are repeated."""
    return max(0, min(heads, len(rows) - 1))


def joined(lines):
    """One line instead of several lines one below the other."""
    height, draws = stacked(lines)
    notes = []
    labels = []
    for line in lines:
        notes.extend(line[2])
        labels.extend(line[3])
    return height, draws, tuple(notes), tuple(labels)


def columns_of(row):
    """How many columns a row spans."""
    return sum([max(1, span) for span, _ in row])


def full_row(row, count):
    """A row with an empty cell for the columns that it lacks."""
    missing = count - columns_of(row)
    return [*row, (missing, ())] if missing > 0 else row


class Grid:
    """The cells of a table, between the boundaries of its columns."""

    def __init__(self, style, rows, notes):
        self.style = style
        self.notes = notes
        self.count = max([columns_of(row) for row in rows], default=0)
        self.rows = [self.cells_of(full_row(row, self.count)) for row in rows]
        self.around = style.rule + 2 * style.cell_gap
        demands = [self.demand_of(cell) for row in self.rows for cell in row]
        room = max(0, style.width - style.rule)
        self.boundaries = columns(demands, self.count, room)[2]
        self.right = max(0, style.width - self.full_width()) // 2

    def full_width(self):
        """The width of the table."""
        return self.boundaries[-1] + self.style.rule

    def cells_of(self, row):
        """The cells of a row, tuples (first, last, items) with their boundaries."""
        found = []
        first = 0
        for span, atoms in row:
            last = first + max(1, span)
            found.append((first, last, items_of(self.style, atoms)))
            first = last
        return found

    def demand_of(self, cell):
        """What a cell demands of the widths of columns."""
        first, last, items = cell
        least, widest = needs(items)
        return first, last, least + self.around, widest + self.around

    def lines(self):
        """The lines of the table, one for each row."""
        last = len(self.rows) - 1
        return [self.row_line(row, index == last) for index, row in enumerate(self.rows)]

    def row_line(self, row, is_last):
        """The line of a row."""
        rule = self.style.rule
        texts = [stacked(self.cell_lines(cell)) for cell in row]
        inner = max([height for height, _ in texts], default=0) + 2 * self.style.cell_gap
        draws = [("rule", 0, 0, self.full_width(), rule)]
        for (first, _, _), (_, drawn) in zip(row, texts):
            left = self.boundaries[first]
            draws.append(("rule", left, rule, rule, inner))
            draws.extend(moved(drawn, left + rule + self.style.cell_gap, rule + self.style.cell_gap))
        draws.append(("rule", self.boundaries[-1], rule, rule, inner))
        height = rule + inner
        if is_last:
            draws.append(("rule", 0, height, self.full_width(), rule))
            height += rule
        notes, labels = self.marks_of_row(row)
        return height, moved(draws, self.right, 0), notes, labels

    def cell_lines(self, cell):
        """The lines of the text of a cell."""
        first, last, items = cell
        width = max(0, self.boundaries[last] - self.boundaries[first] - self.around)
        line_style = LineStyle(width=width, justify=False, tolerance=CELL_TOLERANCE, rag=width)
        return text_lines(self.style, line_style, items, TEXT_FONT, ())

    def marks_of_row(self, row):
        """The notes and the labels of the cells of a row."""
        notes = []
        labels = []
        for _, _, items in row:
            # All labels of the text of a cell come first, whatever lines they are in.
            marked, given = marks_of(self.style, items, self.notes)
            notes.extend(marked)
            labels.extend(given)
        return tuple(notes), tuple(labels)
