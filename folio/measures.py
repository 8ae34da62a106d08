"""The items of a text, measured so that what is between two positions is told at once."""

BLANK_KINDS = ("glue", "penalty", "forced")
WIDE_KINDS = ("box", "page", "glue")
SOLID_KINDS = ("box", "page")


def is_blank(item):
    """Whether an item vanishes at the ends of a line."""
    return item[0] in BLANK_KINDS


def width_of_item(item):
    """The width of an item within a line."""
    return item[1] if item[0] in WIDE_KINDS else 0


def stretch_of_item(item):
    """By how much an item may be stretched."""
    return item[2] if item[0] == "glue" else 0


def shrink_of_item(item):
    """By how much an item may be shrunk."""
    return item[3] if item[0] == "glue" else 0


def is_line_end(items, position):
    """Whether a line may end at a position (point 35)."""
    if not 1 <= position <= len(items):
        return False
    last = items[position - 1]
    if position == len(items) or last[0] in ("penalty", "hyphen", "forced"):
        return True
    if last[0] != "glue" or not last[4]:
        return False
    return position >= 2 and not is_blank(items[position - 2])


def sums_of(numbers):
    """The sums of the first numbers of a list, from none to all of them."""
    sums = [0]
    for number in numbers:
        sums.append(sums[-1] + number)
    return sums


def first_from(marks, beyond):
    """For each index of a list, and the one behind it, the first index from there on with a mark.

    Where there is none, it is `beyond`.
    """
    found = [beyond]
    for index in reversed(range(len(marks))):
        found.append(index if marks[index] else found[-1])
    return found[::-1]


class Measures:
    """Tables of the items of a text."""

    def __init__(self, items):
        self.parts = tuple(items)
        self.count = len(items)
        self._widths = sums_of([width_of_item(item) for item in items])
        self._stretches = sums_of([stretch_of_item(item) for item in items])
        self._shrinks = sums_of([shrink_of_item(item) for item in items])
        self._ends = [is_line_end(items, position) for position in range(self.count + 1)]
        # Behind the last of a kind there is none, so the index is greater than any other one.
        none = self.count + 1
        self._next_end = first_from(self._ends, none)
        self._next_forced = first_from([item[0] == "forced" for item in items], none)
        self._next_solid = first_from([item[0] in SOLID_KINDS for item in items], none)
        self._first_kept = first_from([not is_blank(item) for item in items], self.count)
        self._kept_before = kept_before(items)

    def may_end(self, position):
        """Whether a line may end at a position."""
        return 1 <= position <= self.count and self._ends[position]

    def ends_behind(self, start):
        """The positions behind a position at which lines from there may end."""
        last = min(self.count, self._next_forced[start] + 1)
        return [end for end in range(start + 1, last + 1) if self._ends[end]]

    def bounds(self, start, end):
        """The indexes of the first item of a line and of the one behind its last item."""
        first = self._first_kept[start]
        return first, max(first, self._kept_before[end])

    def line_parts(self, start, end):
        """The items of a line."""
        first, last = self.bounds(start, end)
        return self.parts[first:last]

    def measure(self, start, end):
        """The natural width, the stretch and the shrink of a line (point 36)."""
        first, last = self.bounds(start, end)
        return (
            self._widths[last] - self._widths[first] + self.hyphen_width(end),
            self._stretches[last] - self._stretches[first],
            self._shrinks[last] - self._shrinks[first],
        )

    def has_hyphen(self, end):
        """Whether a line that ends at a position ends with a hyphen."""
        return end > 0 and self.parts[end - 1][0] == "hyphen"

    def hyphen_width(self, end):
        """The width of the hyphen of a line that ends at a position, or 0."""
        return self.parts[end - 1][1] if self.has_hyphen(end) else 0

    def cost_at(self, end):
        """The cost of the penalty or the hyphen at which a line ends, or 0."""
        last = self.parts[end - 1]
        if last[0] == "penalty":
            return last[1]
        return last[3] if last[0] == "hyphen" else 0

    def is_loose(self, end):
        """Whether a line that ends at a position is loose (point 39)."""
        return end == self.count or self.parts[end - 1][0] == "forced"

    def is_forced_within(self, start, end):
        """Whether a line would have to end before its last item."""
        return self._next_forced[start] < end - 1

    def is_one_piece(self, start, end):
        """Whether there is no place to break a line in two lines with a box or a page (point 40)."""
        solid = self._next_solid[start]
        if solid >= end:
            return True
        # The first place behind the first box leaves the most for the second line.
        middle = self._next_end[solid + 1]
        return middle >= end or self._next_solid[middle] >= end


def kept_before(items):
    """For each position, the one behind the last item before it that is not blank, or 0."""
    found = [0]
    for index, item in enumerate(items):
        found.append(found[-1] if is_blank(item) else index + 1)
    return found
