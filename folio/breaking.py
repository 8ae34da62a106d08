"""Breaking texts into lines (points 34 to 41)."""

from folio.measures import Measures, is_line_end
from folio.ways import add_costs, chosen, make_row, start_row

START_KEY = 2
GREATEST_BADNESS = 10000
# Up to this badness a line is not worth telling from one that was not changed.
LEAST_BAD = 12
WORST_STRETCHED = 99
LINE_POINTS = 10
PENALTY_POINTS = 3000


class LineStyle:
    """How lines are broken and set."""

    def __init__(self, *, width, first=0, rest=0, justify=True, tolerance=200, rag=0):
        self.width = width
        self.first = first
        self.rest = rest
        self.justify = justify
        self.tolerance = tolerance
        self.rag = rag

    def indent_of(self, start):
        """The indent of the line that begins at a position."""
        return self.first if start == 0 else self.rest

    def room(self, start):
        """The room of the line that begins at a position."""
        return max(0, self.width - self.indent_of(start))


def may_end(items, position):
    """Whether a line may end at a position."""
    return is_line_end(items, position)


def measure(items, start, end):
    """The natural width, the stretch and the shrink of a line."""
    return Measures(items).measure(start, end)


def badness(change, most):
    """The badness of a change of something that may change by so much."""
    if change == 0:
        return 0
    if most == 0:
        return GREATEST_BADNESS
    return min(GREATEST_BADNESS, 100 * change * change * change // (most * most * most))


def line_of(items, style, start, end):
    """The badness and the class of a line, or None if it does not fit."""
    return fit_line(Measures(items), style, start, end)


def is_one_piece(items, start, end):
    """Whether a line has no place at which it could be broken."""
    return Measures(items).is_one_piece(start, end)


def line_move(items, style, start, key, end):
    """The key and the cost of the move from a stop to a position, or None."""
    return move_of(Measures(items), style, start, key, end)


def break_lines(items, style):
    """The ends of the lines of a text, and the cost of its chosen way."""
    measures = Measures(items)
    rows = [start_row(START_KEY)]
    moves = [[] for _ in range(measures.count + 1)]
    for start in range(measures.count):
        if start > 0:
            rows.append(make_row(rows, start, moves[start]))
        keys = [key for key, _, _ in rows[start]]
        for end, key, target, cost in moves_from(measures, style, start, keys):
            moves[end].append((start, key, target, cost))
    if measures.count > 0:
        rows.append(make_row(rows, measures.count, moves[measures.count]))
    cost, way = chosen(rows[-1])
    return [position for position, _ in way], cost


def lines_cost(items, style, ends):
    """The cost of the way with these positions to the end of a text, or None."""
    measures = Measures(items)
    total = (0, 0, 0)
    key = START_KEY
    start = 0
    for end in ends:
        if not start < end <= measures.count:
            return None
        move = move_of(measures, style, start, key, end)
        if move is None:
            return None
        key = move[0]
        total = add_costs(total, move[1])
        start = end
    return total if start == measures.count else None


def fit_line(measures, style, start, end):
    """The badness and the class of a line by its measures, or None (point 39)."""
    width, stretch, shrink = measures.measure(start, end)
    room = style.room(start)
    if width <= room:
        if measures.is_loose(end):
            return (0, 1)
        if not style.justify:
            return (badness(room - width, style.rag), 1)
        found = badness(room - width, stretch)
        return (found, class_of_stretched(found))
    if style.justify and width - room <= shrink:
        found = badness(width - room, shrink)
        return (found, 1 if found <= LEAST_BAD else 0)
    return None


def class_of_stretched(found):
    """The class of a line that is stretched with this badness."""
    if found <= LEAST_BAD:
        return 1
    return 2 if found <= WORST_STRETCHED else 3


def move_of(measures, style, start, key, end):
    """The key and the cost of the move from a stop to a position, or None (point 41)."""
    if not measures.may_end(end) or measures.is_forced_within(start, end):
        return None
    hyphen = 1 if measures.has_hyphen(end) else 0
    fit = fit_line(measures, style, start, end)
    if fit is None:
        if measures.is_one_piece(start, end):
            return (2 + hyphen, (1, 0, 0))
        return None
    bad, kind = fit
    points = (LINE_POINTS + bad) * (LINE_POINTS + bad)
    points += measures.cost_at(end) * measures.cost_at(end)
    if key % 2 == 1 and hyphen == 1:
        points += PENALTY_POINTS
    if abs(kind - key // 2) > 1:
        points += PENALTY_POINTS
    return (2 * kind + hyphen, (0, 1 if bad > style.tolerance else 0, points))


def moves_from(measures, style, start, keys):
    """All moves from the stops at a position, as tuples (end, key, target, cost)."""
    found = []
    for end in measures.ends_behind(start):
        for key in keys:
            move = move_of(measures, style, start, key, end)
            if move is not None:
                found.append((end, key, move[0], move[1]))
            elif not measures.has_hyphen(end):
                # Without the width of a hyphen, lines that go on behind this one are no less wide.
                return found
    return found
