"""The items of pages, measured so that what a page uses is told at once (points 60 and 61)."""

from folio.measures import first_from, sums_of

def page_ends_of(items):
    """For each position of the items, whether a page may end at it."""
    found = [False]
    before = ""
    for index, item in enumerate(items):
        kind = item[0]
        is_free = kind == "space" and item[2] and before == "line"
        found.append(index == len(items) - 1 or kind in ("penalty", "end") or is_free)
        if kind != "float":
            before = kind
    return found


def height_of_item(item):
    """The height of an item in the content of a page."""
    if item[0] == "line":
        return item[3]
    return item[1] if item[0] == "space" else 0


def notes_of_item(item):
    """The height of the notes of an item."""
    return item[4] if item[0] == "line" else 0


def content_of(items):
    """Items of a page without floats, and without those at the ends that are no lines."""
    kept = [item for item in items if item[0] != "float"]
    lines = [index for index, item in enumerate(kept) if item[0] == "line"]
    return kept[lines[0]:lines[-1] + 1] if lines else []


def floats_of(items):
    """The floats among items, in order."""
    return [item for item in items if item[0] == "float"]


def behind_last_lines(items):
    """For each position, the one behind the last line before it, or 0."""
    found = [0]
    for index, item in enumerate(items):
        found.append(index + 1 if item[0] == "line" else found[-1])
    return found


class PageTables:
    """Tables of the items of pages."""

    def __init__(self, style, items):
        self.style = style
        self.parts = tuple(items)
        self.count = len(items)
        self.floats = floats_of(items)
        self.float_sums = sums_of([item[2] + style.float_gap for item in self.floats])
        self.float_counts = sums_of([1 if item[0] == "float" else 0 for item in items])
        self._heights = sums_of([height_of_item(item) for item in items])
        self._notes = sums_of([notes_of_item(item) for item in items])
        self._may_end = page_ends_of(items)
        # Behind the last of a kind there is none, so the index is greater than any other one.
        none = self.count + 1
        self._next_may_end = first_from(self._may_end, none)
        self._next_end = first_from([item[0] == "end" for item in items], none)
        self._first_line = first_from([item[0] == "line" for item in items], none)
        self._behind_line = behind_last_lines(items)

    def bounds(self, start, end):
        """The indexes of the first item of the content of a page and of the one behind its last item."""
        first = min(end, self._first_line[start])
        return first, max(first, self._behind_line[end])

    def has_content(self, start, end):
        """Whether a page has any content."""
        return self._first_line[start] < end

    def may_end(self, end):
        """Whether a page may end at a position."""
        return self._may_end[end]

    def is_possible(self, start, end):
        """Whether a page is possible between two positions."""
        return self._may_end[end] and self._next_end[start] >= end - 1

    def ends_with_end(self, end):
        """Whether a page that ends at a position, which is not 0, must end there."""
        return self.parts[end - 1][0] == "end"

    def is_one_piece(self, start, end):
        """Whether there is no place to break a page in two pages with content."""
        first = self._first_line[start]
        # The first place behind the first line leaves the most for the second page.
        return first >= end or self._next_may_end[first + 1] >= self._behind_line[end]

    def lines_height(self, start, end):
        """The heights of the lines and of the space in the content of a page."""
        first, last = self.bounds(start, end)
        return self._heights[last] - self._heights[first]

    def head_height(self, start, end):
        """The height of what is repeated before the content of a page."""
        return self.parts[self._first_line[start]][5] if self.has_content(start, end) else 0

    def notes_height(self, start, end):
        """The height of the notes of a page, with the gap above them."""
        height = self._notes[end] - self._notes[start]
        return height + self.style.note_gap if height > 0 else 0

    def floats_height(self, first, last):
        """The height of floats, with the gaps below them."""
        return self.float_sums[last] - self.float_sums[first]

    def used_by_lines(self, start, end):
        """What a page uses without its floats and without what is repeated."""
        return self.lines_height(start, end) + self.notes_height(start, end)

    def used_by_content(self, start, end):
        """What a page uses without its floats."""
        return self.used_by_lines(start, end) + self.head_height(start, end)

    def end_points(self, end):
        """The points of the penalty at which a page ends, or 0."""
        item = self.parts[end - 1]
        return item[1] if item[0] == "penalty" else 0

    def points_of_floats(self, first, left, end):
        """The points of pages with no float, one float and so on from a number on, as long as they fit.

        So much is left without floats; the points of floats that wait are not among them.
        """
        found = []
        fixed = self.end_points(end)
        most = self.float_sums[first] + left
        height = self.style.height
        factor = 0 if end == self.count or self.ends_with_end(end) else 1
        for used in self.float_sums[first:self.float_counts[end] + 1]:
            if used > most:
                break
            share = (most - used) * 100 // height
            found.append(fixed + factor * share * share)
        return found

    def waiting_points(self, end, last):
        """The points of the floats that still wait at a position, when so many stand on pages."""
        return self.style.wait * (self.float_counts[end] - last)
