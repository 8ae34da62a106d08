"""Points 72 and 75 and the section folio/rounds.py of the interface."""

import itertools
import random
import unittest

import book_oracle
import page_oracle

from folio.fonts import Font, Style
from folio.pages import first_rows, page_items, page_rows
from folio.rounds import pages_of_labels, rows_to_take

FONT = Font(line=10, space=0, stretch=0, shrink=0, figure=1, other=1)
END = ("end",)
GAP = ("space", 5, True)
FLOAT = ("float", 9, 10)


def item(block=0, line=0):
    return ("line", block, line, 10, 0, 0)


def line(*labels):
    return (10, (), (), labels)


def block(*lines, heads=0, is_float=False):
    return (lines, heads, is_float, False, False)


class RowsToTakeTest(unittest.TestCase):
    ITEMS = [item(0), GAP, item(1), END, item(2)]

    def assert_taken(self, items, kept, expected):
        with self.subTest(items=items, kept=kept):
            self.assertEqual(rows_to_take(items, kept), expected)

    def test_equal_items(self):
        self.assert_taken(self.ITEMS, list(self.ITEMS), 6)
        self.assert_taken(self.ITEMS[:1], self.ITEMS[:1], 2)
        self.assert_taken([], [], 1)

    def test_both_go_on(self):
        other = [item(7), GAP]
        for count in range(5):
            self.assert_taken(self.ITEMS, self.ITEMS[:count] + other, count + 1)
            self.assert_taken(self.ITEMS[:count] + other, self.ITEMS, count + 1)

    def test_one_is_the_beginning_of_the_other(self):
        for count, expected in ((0, 1), (1, 1), (2, 2), (3, 3), (4, 4)):
            self.assert_taken(self.ITEMS, self.ITEMS[:count], expected)
            self.assert_taken(self.ITEMS[:count], self.ITEMS, expected)

    def test_equal_items_behind_the_first_difference_do_not_count(self):
        self.assert_taken(self.ITEMS, [item(7)] + self.ITEMS[1:], 1)
        self.assert_taken(self.ITEMS, self.ITEMS[:2] + [item(7)] + self.ITEMS[3:], 3)
        self.assert_taken(self.ITEMS, self.ITEMS[:4] + [item(7)], 5)

    def test_each_number_of_an_item_counts(self):
        for place in range(1, 6):
            changed = list(item())
            changed[place] += 1
            self.assert_taken([GAP, item(), GAP], [GAP, tuple(changed), GAP], 2)
        self.assert_taken([GAP, item()], [("space", 5, False), item()], 1)

    def test_the_lists_are_not_changed(self):
        items, kept = list(self.ITEMS), self.ITEMS[:3]
        rows_to_take(items, kept)
        self.assertEqual((items, kept), (self.ITEMS, self.ITEMS[:3]))

    def test_many_lists(self):
        for first, second in itertools.product(range(4), repeat=2):
            for items in itertools.product((GAP, END), repeat=first):
                for kept in itertools.product((GAP, END), repeat=second):
                    self.assert_taken(list(items), list(kept), book_oracle.rows_to_take(list(items), list(kept)))

    def test_rows_that_can_be_taken_over_are_those_that_would_be_made(self):
        numbers = random.Random(75)
        for _ in range(200):
            style = page_oracle.some_style(numbers, Style, FONT)
            items = page_oracle.some_items(numbers, 9)
            kept = items[:numbers.randint(0, len(items))] + page_oracle.some_items(numbers, 3)
            count = rows_to_take(items, kept)
            with self.subTest(items=items, kept=kept):
                taken = page_rows(style, kept, first_rows())[:count]
                self.assertEqual(len(taken), count)
                self.assertEqual(page_rows(style, items, first_rows())[:count], taken)


class PagesOfLabelsTest(unittest.TestCase):
    def assert_pages(self, blocks, items, pages, **expected):
        with self.subTest(items=items, pages=pages):
            found = pages_of_labels(blocks, items, pages)
            self.assertIs(type(found), dict)
            self.assertEqual(found, expected)

    def test_lines(self):
        blocks = [block(line("a", "b"), line(), line("c"))]
        items = [item(0, 0), ("penalty", 0), item(0, 1), ("penalty", 0), item(0, 2), GAP]
        pages = [(0, 2, 0, 0, (0, 0, 0)), (2, 6, 0, 0, (0, 0, 0))]
        self.assert_pages(blocks, items, pages, a=1, b=1, c=2)
        self.assert_pages(blocks, items, [(0, 6, 0, 0, (0, 0, 0))], a=1, b=1, c=1)
        self.assert_pages(blocks, items, [])

    def test_floats(self):
        blocks = [block(line("a"), line("b"), is_float=True), block(line("c")), block(line("d"), is_float=True)]
        items = [("float", 0, 20), item(1), GAP, ("float", 2, 10)]
        self.assert_pages(blocks, items, [(0, 3, 0, 1, (0, 0, 0)), (3, 4, 1, 2, (0, 0, 0))], a=1, b=1, c=1, d=2)
        self.assert_pages(blocks, items, [(0, 4, 0, 0, (0, 0, 0)), (4, 4, 0, 1, None), (4, 4, 1, 2, None)], a=2, b=2, c=1, d=3)
        self.assert_pages(blocks, items, [(0, 4, 0, 0, (0, 0, 0)), (4, 4, 0, 2, None)], a=2, b=2, c=1, d=2)

    def test_lines_that_are_repeated_do_not_count(self):
        blocks = [block(line("a"), line("b"), line("c"), heads=1)]
        items = [item(0, 0), ("penalty", 0), item(0, 1), ("penalty", 0), ("line", 0, 2, 10, 0, 10), GAP]
        self.assert_pages(blocks, items, [(2, 4, 0, 0, (0, 0, 0)), (4, 6, 0, 0, (0, 0, 0))], b=1, c=2)

    def test_labels_that_occur_several_times(self):
        blocks = [block(line("a", "b"), line("c", "a")), block(line("b", "c"), is_float=True)]
        items = [item(0, 0), ("penalty", 0), item(0, 1), GAP, ("float", 1, 10)]
        pages = [(0, 2, 0, 0, (0, 0, 0)), (2, 5, 0, 1, (0, 0, 0))]
        self.assert_pages(blocks, items, pages, a=1, b=1, c=2)
        pages = [(0, 2, 0, 0, (0, 0, 0)), (2, 5, 0, 0, (0, 0, 0)), (5, 5, 0, 1, None)]
        self.assert_pages(blocks, items, pages, a=1, b=1, c=2)
        pages = [(2, 5, 0, 1, (0, 0, 0)), (0, 2, 1, 1, (0, 0, 0))]
        self.assert_pages(blocks, items, pages, c=1, b=1, a=1)

    def test_pages_are_counted_from_1(self):
        blocks = [block(*[line(f"l{number}") for number in range(12)])]
        items = [item(0, number) for number in range(12)]
        pages = [(number, number + 1, 0, 0, (0, 0, 0)) for number in range(12)]
        self.assert_pages(blocks, items, pages, **{f"l{number}": number + 1 for number in range(12)})

    def test_blank_pages_count(self):
        blocks = [block(), block(line("a"))]
        items = [END, item(1)]
        self.assert_pages(blocks, items, [(0, 1, 0, 0, (0, 1, 0)), (1, 2, 0, 0, (0, 0, 0))], a=2)

    def test_arguments_are_not_changed(self):
        blocks, items, pages = [block(line("a"))], [item()], [(0, 1, 0, 0, (0, 0, 0))]
        pages_of_labels(blocks, items, pages).clear()
        self.assertEqual((blocks, items, pages), ([block(line("a"))], [item()], [(0, 1, 0, 0, (0, 0, 0))]))
        self.assertEqual(pages_of_labels(blocks, items, pages), {"a": 1})


if __name__ == "__main__":
    unittest.main()
