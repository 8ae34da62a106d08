"""Points 45 to 47 and the section folio/columns.py of the interface."""

import random
import unittest

import line_oracle

from folio.columns import columns, needs
from folio.errors import BadDemand, FolioError

GLUE = ("glue", 10, 0, 0, True)
TIE = ("glue", 10, 0, 0, False)
FORCED = ("forced",)
PENALTY = ("penalty", 5)


def word(width):
    return ("box", width, 0, (97,))


def hyphen(width):
    return ("hyphen", width, 0, 0)


class NeedsTest(unittest.TestCase):
    def assert_needs(self, items, expected):
        with self.subTest(items=items):
            self.assertEqual(needs(items), expected)
            self.assertEqual(line_oracle.needs(items), expected)

    def test_the_example(self):
        self.assert_needs([word(40), GLUE, word(70), hyphen(5), word(3), GLUE, word(20)], (73, 153))

    def test_no_items(self):
        self.assert_needs([], (0, 0))

    def test_one_item(self):
        self.assert_needs([word(40)], (40, 40))
        self.assert_needs([("page", 14, 0, 2, "x")], (14, 14))
        for item in (GLUE, TIE, FORCED, PENALTY, ("note", 0), ("label", "x")):
            self.assert_needs([item], (0, 0))
        self.assert_needs([hyphen(5)], (5, 5))

    def test_a_hyphen_that_is_used(self):
        self.assert_needs([word(70), hyphen(5), word(6)], (75, 76))
        self.assert_needs([word(70), hyphen(5), word(70)], (75, 140))

    def test_a_hyphen_that_is_not_used(self):
        self.assert_needs([word(70), hyphen(5), word(5)], (75, 75))
        self.assert_needs([word(70), hyphen(5), word(4)], (74, 74))
        self.assert_needs([word(4), hyphen(80), word(4)], (8, 8))

    def test_ties(self):
        self.assert_needs([word(40), TIE, word(30), GLUE, word(20)], (80, 110))

    def test_glue_at_the_ends(self):
        self.assert_needs([GLUE, word(40), GLUE], (40, 40))
        self.assert_needs([word(10), GLUE, GLUE, word(10)], (10, 40))

    def test_stretch_and_shrink_do_not_matter(self):
        self.assert_needs([word(40), ("glue", 10, 90, 10, False), word(30)], (80, 80))

    def test_forced_ends(self):
        self.assert_needs([word(40), GLUE, word(30), FORCED, word(60)], (60, 80))
        self.assert_needs([word(40), FORCED, FORCED, word(30), GLUE, word(30)], (40, 70))
        self.assert_needs([word(40), GLUE, word(30), FORCED], (40, 80))
        self.assert_needs([FORCED, word(40), GLUE, word(30)], (40, 80))

    def test_a_hyphen_before_the_end(self):
        self.assert_needs([word(40), hyphen(5)], (45, 45))
        self.assert_needs([word(40), hyphen(5), FORCED], (40, 40))

    def test_many_texts(self):
        numbers = random.Random(1)
        for _ in range(600):
            items = line_oracle.some_items(numbers, 12)
            self.assert_needs(items, line_oracle.needs(items))

    def test_400_items(self):
        self.assertEqual(needs([word(30), GLUE] * 200), (30, 200 * 40 - 10))

    def test_items_are_not_changed(self):
        items = [word(30), GLUE, word(20)]
        needs(items)
        self.assertEqual(items, [word(30), GLUE, word(20)])


def boundaries_by_listing(demands, count):
    """The boundaries as the greatest sums of widths of demands that follow each other."""
    found = []
    for last in range(count + 1):
        sums = [found[first] + width for first, end, width in demands if end <= last and first < last]
        found.append(max([0] + sums))
    return found


class ColumnsTest(unittest.TestCase):
    def assert_columns(self, demands, count, width, expected):
        with self.subTest(demands=demands, count=count, width=width):
            found = columns(demands, count, width)
            self.assertEqual(found, expected)
            self.assertEqual([type(part) for part in found], [list] * 3)

    def test_the_example(self):
        demands = [(0, 1, 10, 30), (1, 2, 20, 20), (0, 2, 50, 60)]
        self.assert_columns(demands, 2, 55, ([0, 10, 50], [0, 30, 60], [0, 20, 55]))

    def test_widths_around_the_two_boundaries(self):
        demands = [(0, 1, 10, 30), (1, 2, 20, 20), (0, 2, 50, 60)]
        least, wide = [0, 10, 50], [0, 30, 60]
        for width, chosen in (
            (0, least), (49, least), (50, least), (51, [0, 12, 51]), (52, [0, 14, 52]), (59, [0, 28, 59]),
            (60, wide), (61, wide), (1000, wide),
        ):
            self.assert_columns(demands, 2, width, (least, wide, chosen))

    def test_boundaries_are_rounded_down(self):
        demands = [(0, 1, 1, 2), (1, 2, 0, 2)]
        self.assert_columns(demands, 2, 2, ([0, 1, 1], [0, 2, 4], [0, 1, 2]))
        self.assert_columns(demands, 2, 3, ([0, 1, 1], [0, 2, 4], [0, 1, 3]))

    def test_no_demands(self):
        self.assert_columns([], 3, 100, ([0] * 4, [0] * 4, [0] * 4))
        self.assert_columns([], 0, 100, ([0], [0], [0]))

    def test_columns_without_a_demand(self):
        self.assert_columns([(1, 2, 5, 5)], 4, 100, ([0, 0, 5, 5, 5],) * 3)
        self.assert_columns([(0, 3, 5, 5)], 3, 100, ([0, 0, 0, 5],) * 3)

    def test_the_greatest_demand_counts(self):
        demands = [(0, 1, 10, 10), (0, 1, 30, 30), (0, 1, 20, 20)]
        self.assert_columns(demands, 1, 0, ([0, 30],) * 3)

    def test_demands_of_several_columns(self):
        demands = [(0, 3, 100, 100), (0, 1, 10, 10), (1, 3, 50, 50), (1, 2, 20, 20)]
        self.assert_columns(demands, 3, 0, ([0, 10, 30, 100],) * 3)
        demands = [(0, 3, 40, 40), (0, 1, 10, 10), (1, 3, 50, 50), (1, 2, 20, 20)]
        self.assert_columns(demands, 3, 0, ([0, 10, 30, 60],) * 3)

    def test_wide_less_than_least(self):
        self.assert_columns([(0, 1, 30, 10)], 1, 20, ([0, 30], [0, 30], [0, 30]))
        self.assert_columns([(0, 1, 30, 10), (1, 2, 5, 9)], 2, 36, ([0, 30, 35], [0, 30, 39], [0, 30, 36]))

    def test_demands_beyond_the_columns(self):
        good = (0, 1, 5, 5)
        for demands, count, at in (
            ([(0, 2, 5, 5)], 1, 0), ([good, (1, 3, 5, 5)], 2, 1), ([good, good, (0, 9, 5, 5), (2, 3, 5, 5)], 2, 2),
            ([good], 0, 0), ([(5, 6, 0, 0), good], 3, 0),
        ):
            with self.subTest(demands=demands, count=count):
                with self.assertRaises(BadDemand) as caught:
                    columns(demands, count, 100)
                self.assertEqual(caught.exception.at, at)
        with self.assertRaises(FolioError):
            columns([good], 0, 100)
        self.assert_columns([good], 1, 100, ([0, 5],) * 3)

    def test_many_demands(self):
        numbers = random.Random(2)
        for _ in range(400):
            count = numbers.randint(1, 8)
            demands = []
            for _ in range(numbers.randint(0, 12)):
                first = numbers.randint(0, count - 1)
                last = numbers.randint(first + 1, count)
                demands.append((first, last, numbers.randint(0, 40), numbers.randint(0, 60)))
            least = boundaries_by_listing([demand[:3] for demand in demands], count)
            wide = boundaries_by_listing([(first, last, max(a, b)) for first, last, a, b in demands], count)
            width = numbers.randint(0, wide[-1] + 5)
            a, b = least[-1], wide[-1]
            if width <= a:
                chosen = least
            elif width >= b:
                chosen = wide
            else:
                chosen = [(low * (b - width) + high * (width - a)) // (b - a) for low, high in zip(least, wide)]
            self.assert_columns(demands, count, width, (least, wide, chosen))

    def test_lists_have_nothing_in_common(self):
        demands = [(0, 1, 5, 9)]
        for width in (0, 7, 20):
            least, wide, chosen = columns(demands, 1, width)
            chosen[0] = 77
            self.assertEqual((least, wide), ([0, 5], [0, 9]))
        self.assertEqual(demands, [(0, 1, 5, 9)])


if __name__ == "__main__":
    unittest.main()
