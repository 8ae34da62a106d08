"""Choosing the least way among stops by costs (points 4 to 7)."""


def add_costs(one, other):
    """The sum of two costs, number by number."""
    return (one[0] + other[0], one[1] + other[1], one[2] + other[2])


def start_row(key):
    """The row of the position 0 for a start with this key."""
    return [(key, (0, 0, 0), ())]


def make_row(rows, position, moves):
    """The row of a position, by the rows before it and the moves that lead to it."""
    tables = {}
    best = {}
    for start, key, target, cost in moves:
        if start not in tables:
            tables[start] = by_key(rows[start])
        if key not in tables[start]:
            continue
        cost_before, way_before = tables[start][key]
        total = add_costs(cost_before, cost)
        # Ways can be long: one is only made where the cost does not decide already.
        if target in best and best[target][0] < total:
            continue
        found = (total, way_before + ((position, target),))
        if target not in best or found < best[target]:
            best[target] = found
    return [(last, best[last][0], best[last][1]) for last in sorted(best)]


def by_key(row):
    """A dict from the keys of a row to tuples of the cost and the way."""
    return {key: (cost, way) for key, cost, way in row}


def chosen(row):
    """The cost and the way that are chosen in the row of the last position."""
    if not row:
        return None
    # Tuples of tuples are compared by Python as point 6 says, a beginning being less.
    return min([(cost, way) for _, cost, way in row])
