"""Points 42 to 44 and the section folio/setting.py of the interface."""

import random
import unittest

import line_oracle

from folio.breaking import LineStyle, may_end
from folio.fonts import Font, Style
from folio.setting import draw_line, line_height, set_line, shares

FORCED = ("forced",)
NOTE = ("note", 0)
LABEL = ("label", "x")
PENALTY = ("penalty", 7)


def box(width, font=0, glyph=97):
    return ("box", width, font, (glyph,))


def glue(width, stretch=0, shrink=0):
    return ("glue", width, stretch, shrink, True)


def hyphen(width, font=0):
    return ("hyphen", width, font, 0)


def page(width, font=0):
    return ("page", width, font, 2, "x")


def book_style(lines):
    """The style of a book with fonts of which the lines are so high."""
    fonts = [Font(line=line, space=0, stretch=0, shrink=0, figure=0, other=0) for line in lines]
    return Style(width=100, height=100, fonts=fonts)


class SharesTest(unittest.TestCase):
    def assert_shares(self, amount, weights, expected):
        with self.subTest(amount=amount, weights=weights):
            found = shares(amount, weights)
            self.assertIs(type(found), list)
            self.assertEqual(found, expected)

    def test_the_example(self):
        self.assert_shares(10, [1, 1, 1], [3, 3, 4])

    def test_shares(self):
        self.assert_shares(10, [5], [10])
        self.assert_shares(10, [1, 2, 3, 4], [1, 2, 3, 4])
        self.assert_shares(2, [1, 1, 1], [0, 1, 1])
        self.assert_shares(7, [3, 1], [5, 2])
        self.assert_shares(7, [1, 3], [1, 6])
        self.assert_shares(0, [1, 3], [0, 0])
        self.assert_shares(10, (1, 1, 1), [3, 3, 4])

    def test_weights_of_0(self):
        self.assert_shares(10, [], [])
        self.assert_shares(10, [0], [0])
        self.assert_shares(10, [0, 0, 0], [0, 0, 0])
        self.assert_shares(10, [0, 3, 0, 1, 0], [0, 7, 0, 3, 0])

    def test_many_shares(self):
        numbers = random.Random(1)
        for _ in range(300):
            weights = [numbers.randint(0, 9) for _ in range(numbers.randint(0, 8))]
            amount = numbers.randint(0, 100)
            self.assert_shares(amount, weights, line_oracle.shares(amount, weights))
            self.assertEqual(sum(shares(amount, weights)), amount if sum(weights) else 0)

    def test_the_weights_are_not_changed(self):
        weights = [1, 2]
        shares(7, weights).append(1)
        self.assertEqual(weights, [1, 2])


class SettingTest(unittest.TestCase):
    def assert_set(self, items, style, expected, start=0, end=None):
        end = len(items) if end is None else end
        with self.subTest(items=items, style=vars(style), start=start, end=end):
            self.assertEqual(set_line(items, style, start, end), expected)

    def test_stretched_lines(self):
        items = [box(20), glue(10, 1), box(20), glue(5, 3), box(20), glue(10), box(20)]
        self.assert_set(items, LineStyle(width=75), ([20, 10, 20, 5, 20], 0), 0, 6)
        self.assert_set(items, LineStyle(width=79), ([20, 11, 20, 8, 20], 0), 0, 6)
        self.assert_set(items, LineStyle(width=82), ([20, 11, 20, 11, 20], 0), 0, 6)
        self.assert_set(items, LineStyle(width=175), ([20, 35, 20, 80, 20], 0), 0, 6)

    def test_lines_that_cannot_be_stretched(self):
        items = [box(20), glue(10), box(20), glue(5), box(20)]
        self.assert_set(items, LineStyle(width=75), ([20, 10, 20], 0), 0, 4)

    def test_shrunk_lines(self):
        items = [box(20), glue(10, 0, 2), box(20), glue(5, 0, 5), box(20), glue(10), box(20)]
        self.assert_set(items, LineStyle(width=74), ([20, 10, 20, 4, 20], 0), 0, 6)
        self.assert_set(items, LineStyle(width=70), ([20, 9, 20, 1, 20], 0), 0, 6)
        self.assert_set(items, LineStyle(width=68), ([20, 8, 20, 0, 20], 0), 0, 6)

    def test_overfull_lines(self):
        items = [box(20), glue(10, 0, 2), box(20), glue(5, 0, 5), box(20), glue(10), box(20)]
        for width in (67, 30, 0):
            self.assert_set(items, LineStyle(width=width), ([20, 8, 20, 0, 20], 0), 0, 6)
        self.assert_set([box(20)], LineStyle(width=10), ([20], 0))

    def test_loose_lines(self):
        items = [box(20), glue(10, 5, 4), box(20), FORCED, box(20), glue(10, 5, 4), box(20)]
        for start, end in ((0, 4), (4, 7)):
            self.assert_set(items, LineStyle(width=80), ([20, 10, 20], 0), start, end)
            self.assert_set(items, LineStyle(width=50), ([20, 10, 20], 0), start, end)
            self.assert_set(items, LineStyle(width=47), ([20, 7, 20], 0), start, end)
            self.assert_set(items, LineStyle(width=40), ([20, 6, 20], 0), start, end)

    def test_ragged_lines(self):
        items = [box(20), glue(10, 5, 4), box(20), glue(10), box(20)]
        for width in (100, 50, 48, 10):
            self.assert_set(items, LineStyle(width=width, justify=False, rag=50), ([20, 10, 20], 0), 0, 4)

    def test_hyphens(self):
        items = [box(20), glue(10, 1), box(20), hyphen(6), box(5)]
        self.assert_set(items, LineStyle(width=56), ([20, 10, 20, 0], 6), 0, 4)
        self.assert_set(items, LineStyle(width=60), ([20, 14, 20, 0], 6), 0, 4)
        self.assert_set(items, LineStyle(width=100), ([20, 10, 20, 0, 5], 0), 0, 5)
        self.assert_set(items, LineStyle(width=40, justify=False), ([20, 10, 20, 0], 6), 0, 4)
        self.assert_set([hyphen(6), glue(10)], LineStyle(width=10), ([0], 0))

    def test_items_without_a_width(self):
        items = [NOTE, box(20), LABEL, PENALTY, page(7), PENALTY, box(5)]
        self.assert_set(items, LineStyle(width=100), ([0, 20, 0, 0, 7], 0), 0, 6)

    def test_blank_items_at_the_ends(self):
        items = [glue(10, 5), PENALTY, box(20), glue(10, 5), box(20), glue(10, 5), box(20)]
        self.assert_set(items, LineStyle(width=60), ([20, 20, 20], 0), 0, 6)
        self.assert_set([FORCED, FORCED], LineStyle(width=60), ([], 0), 1, 2)

    def test_indents(self):
        items = [box(20), glue(10, 5), box(20), glue(10, 5), box(20), glue(10, 5), box(20), glue(10, 5), box(20)]
        style = LineStyle(width=60, first=5, rest=2)
        self.assert_set(items, style, ([20, 15, 20], 0), 0, 4)
        self.assert_set(items, style, ([20, 18, 20], 0), 4, 8)

    def test_many_lines(self):
        numbers = random.Random(2)
        for _ in range(300):
            items = line_oracle.some_items(numbers, 9)
            style = line_oracle.some_style(numbers, LineStyle)
            for end in range(1, len(items) + 1):
                for start in range(end):
                    if may_end(items, end):
                        self.assert_set(items, style, line_oracle.set_line(items, style, start, end), start, end)

    def test_items_are_not_changed(self):
        items = [box(20), glue(10, 5), box(20), FORCED]
        before = list(items)
        widths, _ = set_line(items, LineStyle(width=60), 0, 4)
        widths.clear()
        self.assertEqual(items, before)


class HeightTest(unittest.TestCase):
    def assert_height(self, items, expected, start=0, end=None, font=0):
        end = len(items) if end is None else end
        with self.subTest(items=items, start=start, end=end, font=font):
            self.assertEqual(line_height(book_style((10, 20, 30, 5)), items, start, end, font), expected)

    def test_the_greatest_line_counts(self):
        self.assert_height([box(1, 0)], 10)
        self.assert_height([box(1, 0), page(1, 1)], 20)
        self.assert_height([box(1, 2), page(1, 1), box(1, 0)], 30)
        self.assert_height([box(1, 3)], 5)

    def test_fonts_beyond_the_fonts(self):
        self.assert_height([box(1, 3), box(1, 4)], 10)
        self.assert_height([box(1, 4)], 10)

    def test_hyphens_that_are_not_drawn(self):
        self.assert_height([box(1, 0), hyphen(1, 2), box(1, 0)], 30)
        self.assert_height([box(1, 0), hyphen(1, 2)], 30)

    def test_only_the_items_of_the_line_count(self):
        items = [box(1, 2), glue(1), box(1, 1), glue(1), box(1, 0)]
        self.assert_height(items, 30, 0, 2)
        self.assert_height(items, 20, 2, 4)
        self.assert_height(items, 20, 1, 5)
        self.assert_height(items, 10, 4, 5)

    def test_the_given_font(self):
        for number, line in enumerate((10, 20, 30, 5, 10, 10)):
            for items in ([FORCED], [NOTE], [LABEL, glue(5), PENALTY]):
                self.assert_height(items, line, font=number)
        self.assert_height([box(1, 3)], 5, font=2)
        self.assert_height([box(1, 2), FORCED, FORCED], 20, 2, 3, font=1)


class DrawingTest(unittest.TestCase):
    def assert_drawn(self, items, line_style, expected, start=0, end=None, lines=(10, 20, 30), font=0):
        end = len(items) if end is None else end
        with self.subTest(items=items, style=vars(line_style), start=start, end=end):
            found = draw_line(book_style(lines), line_style, items, start, end, font)
            self.assertEqual(found, expected)
            self.assertIs(type(found[1]), list)

    def test_boxes_and_pages(self):
        items = [box(20, 0, 97), glue(5), page(7, 0), box(9, 0, 98)]
        draws = [("text", 0, 0, 0, (97,)), ("page", 25, 0, 0, 2, "x"), ("text", 32, 0, 0, (98,))]
        self.assert_drawn(items, LineStyle(width=100), (10, draws))

    def test_what_is_not_drawn(self):
        items = [NOTE, box(20), LABEL, hyphen(6), box(5), PENALTY, box(1), glue(5), FORCED]
        draws = [("text", 0, 0, 0, (97,)), ("text", 20, 0, 0, (97,)), ("text", 25, 0, 0, (97,))]
        self.assert_drawn(items, LineStyle(width=100), (10, draws))
        self.assert_drawn([NOTE, FORCED], LineStyle(width=100), (10, []))

    def test_boxes_of_several_glyphs_and_of_none(self):
        items = [("box", 20, 0, (97, 200, 98)), ("box", 0, 0, ())]
        draws = [("text", 0, 0, 0, (97, 200, 98)), ("text", 20, 0, 0, ())]
        self.assert_drawn(items, LineStyle(width=100), (10, draws))

    def test_everything_stands_at_the_bottom(self):
        items = [box(20, 0), page(7, 1), box(9, 2), box(3, 4)]
        draws = [
            ("text", 0, 20, 0, (97,)), ("page", 20, 10, 1, 2, "x"), ("text", 27, 0, 2, (97,)), ("text", 36, 20, 4, (97,)),
        ]
        self.assert_drawn(items, LineStyle(width=100), (30, draws))

    def test_hyphens_at_the_end(self):
        items = [box(20, 1), hyphen(6, 1), box(20, 2), hyphen(7, 0), box(5, 0)]
        self.assert_drawn(items, LineStyle(width=26), (20, [("text", 0, 0, 1, (97,)), ("text", 20, 0, 1, (45,))]), 0, 2)
        draws = [("text", 0, 10, 1, (97,)), ("text", 20, 0, 2, (97,)), ("text", 40, 20, 0, (45,))]
        self.assert_drawn(items, LineStyle(width=100), (30, draws), 0, 4)

    def test_the_hyphen_is_behind_what_was_stretched(self):
        items = [box(20), glue(10, 5), box(20), hyphen(6), box(5)]
        draws = [("text", 0, 0, 0, (97,)), ("text", 34, 0, 0, (97,)), ("text", 54, 0, 0, (45,))]
        self.assert_drawn(items, LineStyle(width=60), (10, draws), 0, 4)

    def test_a_hyphen_that_makes_the_line_higher(self):
        items = [box(20, 0), hyphen(6, 2), box(20, 0)]
        draws = [("text", 0, 20, 0, (97,)), ("text", 20, 20, 0, (97,))]
        self.assert_drawn(items, LineStyle(width=100), (30, draws))

    def test_indents(self):
        items = [box(20), PENALTY, box(30), PENALTY, box(10)]
        style = LineStyle(width=50, first=7, rest=9)
        self.assert_drawn(items, style, (10, [("text", 7, 0, 0, (97,))]), 0, 2)
        self.assert_drawn(items, style, (10, [("text", 9, 0, 0, (97,))]), 2, 4)
        style = LineStyle(width=50, first=70, rest=90)
        self.assert_drawn(items, style, (10, [("text", 70, 0, 0, (97,))]), 0, 2)
        self.assert_drawn(items, style, (10, [("text", 90, 0, 0, (97,))]), 2, 4)

    def test_blank_items_at_the_ends(self):
        items = [glue(10), box(20), glue(10), box(20)]
        self.assert_drawn(items, LineStyle(width=100, first=3), (10, [("text", 3, 0, 0, (97,))]), 0, 3)

    def test_lines_that_are_shrunk_stretched_and_ragged(self):
        items = [box(20), glue(10, 5, 4), box(20), glue(10), box(20)]
        for width, justify, x in ((48, True, 28), (30, True, 26), (70, True, 50), (70, False, 30), (30, False, 30)):
            draws = [("text", 0, 0, 0, (97,)), ("text", x, 0, 0, (97,))]
            self.assert_drawn(items, LineStyle(width=width, justify=justify), (10, draws), 0, 4)

    def test_the_given_font(self):
        self.assert_drawn([FORCED], LineStyle(width=100), (20, []), font=1)
        self.assert_drawn([box(5, 0)], LineStyle(width=100), (10, [("text", 0, 0, 0, (97,))]), font=2)

    def test_many_lines(self):
        numbers = random.Random(3)
        made = book_style((10, 20, 15))
        for _ in range(150):
            items = line_oracle.some_items(numbers, 8)
            style = line_oracle.some_style(numbers, LineStyle)
            for end in range(1, len(items) + 1):
                for start in range(end):
                    height = line_height(made, items, start, end, 1)
                    draws = self.drawn_by_listing(items, style, start, end, (10, 20, 15), height)
                    self.assert_drawn(items, style, (height, draws), start, end, (10, 20, 15), 1)

    def drawn_by_listing(self, items, style, start, end, lines, height):
        draws = []
        x = style.first if start == 0 else style.rest
        widths, _ = line_oracle.set_line(items, style, start, end)
        for item, width in zip(line_oracle.line_items(items, start, end), widths):
            if item[0] == "box":
                draws.append(("text", x, height - lines[item[2]], item[2], item[3]))
            if item[0] == "page":
                draws.append(("page", x, height - lines[item[2]], item[2], item[3], item[4]))
            x += width
        if items[end - 1][0] == "hyphen":
            number = items[end - 1][2]
            draws.append(("text", x, height - lines[number], number, (45,)))
        return draws


if __name__ == "__main__":
    unittest.main()
