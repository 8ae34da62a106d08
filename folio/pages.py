"""Breaking blocks into pages (points 59 to 63)."""

from folio.pagetables import PageTables, content_of, page_ends_of
from folio.ways import add_costs, chosen, make_row, start_row

START_KEY = 0


def page_items(style, blocks):
    """The items of pages of set blocks."""
    found = []
    for number, block in enumerate(blocks):
        if block[2]:
            found.append(("float", number, sum([line[0] for line in block[0]])))
        else:
            found.extend(items_of_block(style, number, block))
    return found


def items_of_block(style, number, block):
    """The items of a block that is no float (point 59)."""
    lines, heads, _, ends_page, keeps_next = block
    repeated = sum([line[0] for line in lines[:heads]])
    last = len(lines) - 1
    found = []
    for index, line in enumerate(lines):
        notes = sum([note[0] for note in line[2]])
        found.append(("line", number, index, line[0], notes, 0 if index < heads else repeated))
        if index < last:
            orphan = style.orphan if index == 0 else 0
            widow = style.widow if index == last - 1 else 0
            found.append(("penalty", orphan + widow))
    if ends_page:
        found.append(("end",))
    elif lines:
        found.append(("space", style.gap, not keeps_next))
    return found


def page_may_end(items, position):
    """Whether a page may end at a position (point 60)."""
    return 1 <= position <= len(items) and page_ends_of(items)[position]


def page_content(items, start, end):
    """The content of a page, as a list (point 61)."""
    return content_of(items[start:end])


def page_move(style, items, start, first, end, last):
    """The cost of the move from the stop (start, first) to the stop (end, last), or None."""
    return cost_of_move(PageTables(style, items), start, first, end, last)


def first_rows():
    """The list with the row of the position 0."""
    return [start_row(START_KEY)]


def page_rows(style, items, rows):
    """The rows of all positions; those of the first positions are taken over."""
    tables = PageTables(style, items)
    found = [list(row) for row in rows]
    for end in range(len(rows), tables.count + 1):
        found.append(page_row(tables, found, end))
    return found


def page_ends(rows):
    """The cost and the way that are chosen, by the rows of all positions."""
    return chosen(rows[-1])


def cost_of_pages(style, items, ends):
    """The cost of the way with these stops to the end of the items, or None."""
    tables = PageTables(style, items)
    total = (0, 0, 0)
    start = 0
    first = START_KEY
    for end, last in ends:
        cost = cost_of_move(tables, start, first, end, last)
        if cost is None:
            return None
        total = add_costs(total, cost)
        start = end
        first = last
    return total if start == tables.count else None


def pages_of(style, items, way):
    """The pages of a way, tuples (start, end, first, last, cost)."""
    tables = PageTables(style, items)
    found = []
    start = 0
    first = START_KEY
    for end, last in way:
        if first < last or tables.has_content(start, end) or tables.ends_with_end(end):
            found.append((start, end, first, last, cost_of_move(tables, start, first, end, last)))
        start = end
        first = last
    return found + pages_of_floats(tables, first)


def pages_of_floats(tables, first):
    """The pages of the floats that are left from a number on (point 63)."""
    found = []
    while first < len(tables.floats):
        last = first + 1
        while last < len(tables.floats) and tables.floats_height(first, last + 1) <= tables.style.height:
            last += 1
        found.append((tables.count, tables.count, first, last, None))
        first = last
    return found


def cost_of_move(tables, start, first, end, last):
    """The cost of the move from a stop to another one, or None (point 62)."""
    if not (0 <= start < end <= tables.count and tables.is_possible(start, end)):
        return None
    counts = tables.float_counts
    if not (0 <= first <= counts[start] and first <= last <= counts[end]):
        return None
    waiting = tables.waiting_points(end, last)
    left = tables.style.height - tables.used_by_content(start, end)
    if left >= 0:
        points = tables.points_of_floats(first, left, end)[last - first:]
        worse = 1 if first == last and not tables.has_content(start, end) else 0
        return (0, worse, points[0] + waiting) if points else None
    if first == last and tables.is_one_piece(start, end):
        return (1, 0, waiting)
    return None


def page_row(tables, rows, end):
    """The row of a position, by the rows before it."""
    moves = LeastMoves(tables, end)
    if tables.may_end(end):
        for start in reversed(range(end)):
            # On pages that begin further to the left there is no less.
            if not tables.is_possible(start, end) or is_too_much(tables, start, end):
                break
            moves.add_from(start, rows[start])
    return make_row(rows, end, moves.all_moves())


def is_too_much(tables, start, end):
    """Whether a page has more than one piece, and too much even without what is repeated."""
    if tables.used_by_lines(start, end) <= tables.style.height:
        return False
    return not tables.is_one_piece(start, end)


class LeastMoves:
    """The moves to a position, but for those that make a way dearer than other ways with the same last stop."""

    def __init__(self, tables, end):
        self.tables = tables
        self.end = end
        self.least = {}
        self.moves = {}
        self.waiting = [tables.waiting_points(end, last) for last in range(tables.float_counts[end] + 1)]

    def all_moves(self):
        """The moves, as make_row takes them."""
        return [move for target in self.moves for move in self.moves[target]]

    def add_from(self, start, row):
        """Adds the moves from the stops of a row."""
        stops = [(key, before) for key, before, _ in row if key <= self.tables.float_counts[start]]
        if not stops:
            return
        left = self.tables.style.height - self.tables.used_by_content(start, self.end)
        if left >= 0:
            for key, before in stops:
                self.add_fitting(start, key, before, left)
        elif self.tables.is_one_piece(start, self.end):
            for key, before in stops:
                self.add_move(start, key, key, before, (1, 0, self.waiting[key]))

    def add_fitting(self, start, key, before, left):
        """Adds the moves from a stop of which the pages fit; so much is left without floats."""
        worse = 0 if self.tables.has_content(start, self.end) else 1
        # Most moves are left out here, so a cost is made as late as possible.
        for last, points in enumerate(self.tables.points_of_floats(key, left, self.end), start=key):
            points += self.waiting[last]
            blank = worse if last == key else 0
            total = (before[0], before[1] + blank, before[2] + points)
            if last not in self.least or total <= self.least[last]:
                self.add_move(start, key, last, before, (0, blank, points))

    def add_move(self, start, key, target, before, cost):
        """Adds a move, unless it is dearer than another one with the same target."""
        total = add_costs(before, cost)
        if target not in self.least or total < self.least[target]:
            self.least[target] = total
            self.moves[target] = []
        if total == self.least[target]:
            self.moves[target].append((start, key, target, cost))
