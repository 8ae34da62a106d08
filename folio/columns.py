"""The widths of columns (points 45 to 47)."""

from folio.errors import BadDemand
from folio.measures import Measures


def needs(items):
    """The width that a text needs, and its widest width."""
    measures = Measures(items)
    return least_width(measures), widest_width(measures)


def least_width(measures):
    """The least width in which a text can be set."""
    least = [0]
    for _ in range(measures.count):
        least.append(None)
    for start in range(measures.count):
        if least[start] is None:
            continue
        for end in measures.ends_behind(start):
            needed = max(least[start], measures.measure(start, end)[0])
            if least[end] is None or needed < least[end]:
                least[end] = needed
    return least[measures.count]


def widest_width(measures):
    """The greatest natural width of lines that end only where they must."""
    widest = 0
    start = 0
    for end in range(1, measures.count + 1):
        if measures.is_loose(end):
            widest = max(widest, measures.measure(start, end)[0])
            start = end
    return widest


def columns(demands, count, width):
    """The least, the wide and the chosen boundaries of columns."""
    for at, demand in enumerate(demands):
        if demand[1] > count:
            raise BadDemand(at)
    least = boundaries([(first, last, low) for first, last, low, _ in demands], count)
    wide = boundaries([(first, last, max(low, high)) for first, last, low, high in demands], count)
    return least, wide, chosen_boundaries(least, wide, width)


def boundaries(demands, count):
    """The boundaries of columns, for demands with one width each."""
    found = [0]
    for column in range(1, count + 1):
        ends = [found[first] + width for first, last, width in demands if last == column]
        found.append(max([found[-1], *ends]))
    return found


def chosen_boundaries(least, wide, width):
    """The boundaries for a width, between the least and the wide ones."""
    low = least[-1]
    high = wide[-1]
    if width <= low:
        return list(least)
    if width >= high:
        return list(wide)
    return [(one * (high - width) + other * (width - low)) // (high - low) for one, other in zip(least, wide)]
