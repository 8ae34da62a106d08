"""Points 34 to 41 and the section folio/breaking.py of the interface."""

import random
import time
import unittest

import line_oracle

from folio.breaking import (
    LineStyle, badness, break_lines, is_one_piece, line_move, line_of, lines_cost, may_end, measure,
)

BOX = ("box", 40, 0, (97,))
PAGE = ("page", 14, 0, 2, "x")
GLUE = ("glue", 10, 20, 5, True)
TIE = ("glue", 10, 20, 5, False)
PENALTY = ("penalty", 7)
HYPHEN = ("hyphen", 6, 0, 30)
FORCED = ("forced",)
NOTE = ("note", 0)
LABEL = ("label", "x")


def box(width):
    return ("box", width, 0, (97,))


def glue(width=10, stretch=0, shrink=0):
    return ("glue", width, stretch, shrink, True)


class LineStyleTest(unittest.TestCase):
    def test_attributes(self):
        style = LineStyle(width=100, first=1, rest=2, justify=False, tolerance=3, rag=4)
        self.assertEqual(
            (style.width, style.first, style.rest, style.justify, style.tolerance, style.rag), (100, 1, 2, False, 3, 4)
        )

    def test_defaults(self):
        style = LineStyle(width=100)
        self.assertEqual((style.first, style.rest, style.justify, style.tolerance, style.rag), (0, 0, True, 200, 0))
        with self.assertRaises(TypeError):
            LineStyle(100)

    def test_room(self):
        style = LineStyle(width=100, first=30, rest=10)
        self.assertEqual([style.room(start) for start in (0, 1, 2, 50)], [70, 90, 90, 90])

    def test_indents_greater_than_the_width(self):
        style = LineStyle(width=100, first=101, rest=500)
        self.assertEqual([style.room(start) for start in (0, 1)], [0, 0])
        style = LineStyle(width=100, first=100, rest=99)
        self.assertEqual([style.room(start) for start in (0, 1)], [0, 1])
        self.assertIn("room", vars(LineStyle))


class EndsTest(unittest.TestCase):
    def assert_ends(self, items, expected):
        with self.subTest(items=items):
            found = [position for position in range(len(items) + 1) if may_end(items, position)]
            self.assertEqual(found, expected)
            self.assertEqual({type(may_end(items, position)) for position in range(len(items) + 1)}, {bool})

    def test_no_items(self):
        self.assert_ends([], [])

    def test_the_end_of_the_text(self):
        for item in (BOX, PAGE, GLUE, TIE, PENALTY, HYPHEN, FORCED, NOTE, LABEL):
            self.assert_ends([item], [1])

    def test_each_kind_of_item(self):
        for item in (GLUE, PENALTY, HYPHEN, FORCED):
            self.assert_ends([BOX, item, BOX], [2, 3])
        for item in (BOX, PAGE, TIE, NOTE, LABEL):
            self.assert_ends([BOX, item, BOX], [3])

    def test_free_glue_behind_each_kind_of_item(self):
        for item in (BOX, PAGE, NOTE, LABEL):
            self.assert_ends([item, GLUE, BOX], [2, 3])
        self.assert_ends([HYPHEN, GLUE, BOX], [1, 2, 3])
        for item in (PENALTY, FORCED):
            self.assert_ends([item, GLUE, BOX], [1, 3])
        self.assert_ends([TIE, GLUE, BOX], [3])
        self.assert_ends([BOX, GLUE, GLUE, BOX], [2, 4])
        self.assert_ends([GLUE, BOX], [2])

    def test_many_items(self):
        numbers = random.Random(1)
        for _ in range(200):
            items = line_oracle.some_items(numbers, 12)
            self.assert_ends(items, [j for j in range(len(items) + 1) if line_oracle.may_end(items, j)])


class MeasuresTest(unittest.TestCase):
    def assert_measure(self, items, start, end, expected):
        with self.subTest(items=items, start=start, end=end):
            self.assertEqual(measure(items, start, end), expected)

    def test_sums(self):
        self.assert_measure([BOX, GLUE, PAGE, TIE, box(3)], 0, 5, (40 + 10 + 14 + 10 + 3, 40, 10))
        self.assert_measure([BOX, GLUE, PAGE, TIE, box(3)], 2, 5, (14 + 10 + 3, 20, 5))

    def test_items_without_a_width(self):
        self.assert_measure([NOTE, BOX, LABEL, PENALTY, BOX, NOTE], 0, 6, (80, 0, 0))

    def test_blank_items_at_the_ends(self):
        items = [GLUE, PENALTY, FORCED, GLUE, BOX, TIE, BOX, GLUE, TIE, PENALTY, FORCED]
        self.assert_measure(items, 0, len(items), (90, 20, 5))
        self.assert_measure(items, 0, 6, (40, 0, 0))
        self.assert_measure(items, 5, 8, (40, 0, 0))
        self.assert_measure(items, 0, 4, (0, 0, 0))
        self.assert_measure(items, 7, 11, (0, 0, 0))
        self.assert_measure(items, 5, 6, (0, 0, 0))

    def test_items_that_hold_blanks(self):
        for item in (NOTE, LABEL):
            self.assert_measure([item, GLUE, BOX, GLUE, item], 0, 5, (60, 40, 10))
        self.assert_measure([HYPHEN, GLUE, BOX], 0, 3, (50, 20, 5))

    def test_hyphens(self):
        self.assert_measure([BOX, HYPHEN], 0, 2, (46, 0, 0))
        self.assert_measure([BOX, HYPHEN, BOX], 0, 3, (80, 0, 0))
        self.assert_measure([BOX, HYPHEN, BOX, HYPHEN, BOX], 0, 4, (86, 0, 0))
        self.assert_measure([BOX, HYPHEN, GLUE], 0, 3, (40, 0, 0))
        self.assert_measure([GLUE, HYPHEN], 0, 2, (6, 0, 0))
        self.assert_measure([BOX, GLUE, HYPHEN], 0, 3, (56, 20, 5))

    def test_many_lines(self):
        numbers = random.Random(2)
        for _ in range(200):
            items = line_oracle.some_items(numbers, 10)
            for end in range(1, len(items) + 1):
                for start in range(end):
                    self.assert_measure(items, start, end, line_oracle.measure(items, start, end))


class BadnessTest(unittest.TestCase):
    def test_values(self):
        for change, most, expected in (
            (0, 0, 0), (0, 5, 0), (1, 0, 10000), (5, 0, 10000), (5, 5, 100), (10, 20, 12), (1, 2, 12), (1, 3, 3),
            (1, 5, 0), (1, 4, 1), (2, 1, 800), (9, 2, 9112), (14, 3, 10000), (100, 1, 10000), (46, 10, 9733),
            (47, 10, 10000), (464, 100, 9989), (465, 100, 10000), (99, 100, 97),
        ):
            with self.subTest(change=change, most=most):
                self.assertEqual(badness(change, most), expected)
                self.assertEqual(badness(change, most), line_oracle.badness(change, most))


class LinesTest(unittest.TestCase):
    def assert_line(self, items, style, expected, start=0, end=None):
        end = len(items) if end is None else end
        with self.subTest(items=items, style=vars(style), start=start, end=end):
            self.assertEqual(line_of(items, style, start, end), expected)

    def justified(self, width, stretch, room, expected):
        items = [box(0), glue(width, stretch, 0), box(0), GLUE, BOX]
        self.assert_line(items, LineStyle(width=room), expected, 0, 4)

    def test_loose_lines(self):
        for justify in (True, False):
            for width in (40, 50, 1000):
                self.assert_line([BOX], LineStyle(width=width, justify=justify), (0, 1))
                self.assert_line([BOX, FORCED, BOX], LineStyle(width=width, justify=justify), (0, 1), 0, 2)
        self.assert_line([BOX, FORCED, BOX], LineStyle(width=40), (0, 1), 1, 3)

    def test_loose_lines_that_are_too_wide(self):
        items = [box(20), glue(10, 0, 8), box(20)]
        self.assert_line(items, LineStyle(width=50), (0, 1))
        self.assert_line(items, LineStyle(width=49), (0, 1))
        self.assert_line(items, LineStyle(width=46), (12, 1))
        self.assert_line(items, LineStyle(width=45), (24, 0))
        self.assert_line(items, LineStyle(width=42), (100, 0))
        self.assert_line(items, LineStyle(width=41), None)
        self.assert_line(items, LineStyle(width=49, justify=False), None)

    def test_lines_of_exactly_their_room(self):
        self.justified(50, 0, 50, (0, 1))
        self.justified(50, 7, 50, (0, 1))

    def test_stretched_lines_at_the_bounds_of_their_classes(self):
        self.justified(50, 50, 75, (12, 1))
        self.justified(50, 100, 101, (13, 2))
        self.justified(0, 1000, 998, (99, 2))
        self.justified(50, 50, 100, (100, 3))
        self.justified(50, 50, 101, (106, 3))
        self.justified(50, 1, 1000, (10000, 3))

    def test_lines_that_cannot_be_stretched(self):
        self.justified(50, 0, 51, (10000, 3))
        self.assert_line([BOX, PENALTY, BOX], LineStyle(width=41), (10000, 3), 0, 2)

    def test_shrunk_lines_at_the_bounds_of_their_classes(self):
        for room, shrink, expected in (
            (49, 2, (12, 1)), (45, 10, (12, 1)), (49, 1, (100, 0)), (40, 10, (100, 0)), (39, 10, None), (0, 50, (100, 0)),
        ):
            items = [box(0), ("glue", 50, 0, shrink, False), box(0), GLUE, BOX]
            self.assert_line(items, LineStyle(width=room), expected, 0, 4)
        items = [box(0), ("glue", 1000, 0, 100, False), box(0), GLUE, BOX]
        self.assert_line(items, LineStyle(width=949), (13, 0), 0, 4)
        self.assert_line(items, LineStyle(width=950), (12, 1), 0, 4)

    def test_ragged_lines(self):
        items = [BOX, GLUE, BOX]
        for width, rag, expected in ((40, 0, (0, 1)), (41, 0, (10000, 1)), (50, 10, (100, 1)), (60, 10, (800, 1)),
                                     (50, 20, (12, 1)), (39, 100, None), (45, 100, (0, 1))):
            self.assert_line(items, LineStyle(width=width, rag=rag, justify=False), expected, 0, 2)

    def test_ragged_lines_are_not_shrunk(self):
        items = [box(20), glue(10, 0, 10), box(20), GLUE, BOX]
        self.assert_line(items, LineStyle(width=49, justify=False), None, 0, 4)
        self.assert_line(items, LineStyle(width=50, justify=False), (0, 1), 0, 4)

    def test_hyphens_belong_to_their_line(self):
        items = [BOX, HYPHEN, BOX]
        self.assert_line(items, LineStyle(width=46), (0, 1), 0, 2)
        self.assert_line(items, LineStyle(width=45), None, 0, 2)
        self.assert_line(items, LineStyle(width=40), (0, 1), 1, 3)

    def test_indents(self):
        style = LineStyle(width=50, first=10, rest=20)
        self.assert_line([BOX], style, (0, 1))
        self.assert_line([BOX, PENALTY, box(30)], style, (0, 1), 2, 3)
        self.assert_line([BOX, PENALTY, box(31)], style, None, 2, 3)

    def test_an_indent_greater_than_the_width(self):
        style = LineStyle(width=50, first=60)
        self.assert_line([box(0)], style, (0, 1))
        self.assert_line([box(1)], style, None)
        self.assert_line([NOTE, FORCED], style, (0, 1))

    def test_empty_lines(self):
        self.assert_line([FORCED, FORCED], LineStyle(width=50), (0, 1), 1, 2)
        self.assert_line([BOX, PENALTY, PENALTY, BOX], LineStyle(width=50), (10000, 3), 2, 3)

    def test_many_lines(self):
        numbers = random.Random(3)
        for _ in range(200):
            items = line_oracle.some_items(numbers, 8)
            style = line_oracle.some_style(numbers, LineStyle)
            for end in range(1, len(items) + 1):
                for start in range(end):
                    if may_end(items, end):
                        self.assert_line(items, style, line_oracle.line_of(items, style, start, end), start, end)


class PiecesTest(unittest.TestCase):
    def assert_piece(self, items, expected, start=0, end=None):
        end = len(items) if end is None else end
        with self.subTest(items=items, start=start, end=end):
            self.assertIs(is_one_piece(items, start, end), expected)

    def test_one_box(self):
        self.assert_piece([BOX], True)
        self.assert_piece([GLUE, BOX, GLUE], True)
        self.assert_piece([NOTE, PENALTY, BOX, HYPHEN, LABEL], True)

    def test_two_boxes(self):
        for item in (GLUE, PENALTY, HYPHEN, FORCED):
            for other in (BOX, PAGE):
                self.assert_piece([other, item, BOX], False)
                self.assert_piece([BOX, item, other], False)
        for item in (TIE, NOTE, LABEL, BOX):
            self.assert_piece([BOX, item, BOX], True)
        self.assert_piece([BOX, BOX], True)

    def test_neither_box_nor_page(self):
        self.assert_piece([NOTE, GLUE, LABEL], True)
        self.assert_piece([BOX, GLUE, NOTE, GLUE, LABEL], True)
        self.assert_piece([NOTE, GLUE, LABEL, GLUE, BOX], True)
        self.assert_piece([GLUE, GLUE], True)

    def test_only_the_items_of_the_line_matter(self):
        items = [BOX, GLUE, BOX, GLUE, BOX]
        self.assert_piece(items, True, 0, 2)
        self.assert_piece(items, True, 1, 4)
        self.assert_piece(items, True, 2, 4)
        self.assert_piece(items, False, 0, 3)
        self.assert_piece(items, False, 0, 4)
        self.assert_piece(items, False, 2, 5)

    def test_the_ends_of_the_line_do_not_count(self):
        self.assert_piece([BOX, HYPHEN, BOX, HYPHEN], True, 1, 4)
        self.assert_piece([BOX, HYPHEN, BOX, HYPHEN], True, 0, 2)

    def test_many_lines(self):
        numbers = random.Random(4)
        for _ in range(300):
            items = line_oracle.some_items(numbers, 9)
            for end in range(1, len(items) + 1):
                for start in range(end):
                    self.assert_piece(items, line_oracle.is_one_piece(items, start, end), start, end)


class MovesTest(unittest.TestCase):
    def assert_move(self, items, style, stop, end, expected):
        with self.subTest(items=items, style=vars(style), stop=stop, end=end):
            self.assertEqual(line_move(items, style, stop[0], stop[1], end), expected)

    def test_places_at_which_no_line_may_end(self):
        self.assert_move([BOX, BOX], LineStyle(width=100), (0, 2), 1, None)
        self.assert_move([BOX, TIE, BOX], LineStyle(width=100), (0, 2), 2, None)

    def test_forced_ends(self):
        items = [BOX, FORCED, BOX, FORCED, FORCED, BOX]
        style = LineStyle(width=1000)
        expected = (2, (0, 0, 100))
        for start, end in ((0, 2), (1, 2), (2, 4), (3, 4), (4, 5), (5, 6)):
            self.assert_move(items, style, (start, 2), end, expected)
        for start, end in ((0, 4), (0, 6), (1, 4), (2, 5), (2, 6), (3, 5), (4, 6)):
            self.assert_move(items, style, (start, 2), end, None)

    def test_a_line_that_fits(self):
        self.assert_move([BOX], LineStyle(width=40), (0, 2), 1, (2, (0, 0, 100)))
        items = [BOX, GLUE, BOX, GLUE, BOX]
        self.assert_move(items, LineStyle(width=100, tolerance=12), (0, 2), 4, (2, (0, 0, 22 * 22)))
        self.assert_move(items, LineStyle(width=100, tolerance=11), (0, 2), 4, (2, (0, 1, 22 * 22)))
        self.assert_move(items, LineStyle(width=105, tolerance=42), (0, 2), 4, (4, (0, 0, 52 * 52)))
        self.assert_move(items, LineStyle(width=105, tolerance=41), (0, 2), 4, (4, (0, 1, 52 * 52)))
        self.assert_move(items, LineStyle(width=85), (0, 2), 4, (0, (0, 0, 110 * 110)))

    def test_the_cost_of_a_penalty(self):
        items = [BOX, PENALTY, BOX]
        self.assert_move(items, LineStyle(width=40), (0, 2), 2, (2, (0, 0, 100 + 49)))
        self.assert_move(items, LineStyle(width=80), (0, 2), 3, (2, (0, 0, 100)))
        self.assert_move([BOX, PENALTY], LineStyle(width=40), (0, 2), 2, (2, (0, 0, 100 + 49)))

    def test_the_cost_of_a_hyphen(self):
        items = [BOX, HYPHEN, BOX]
        self.assert_move(items, LineStyle(width=46), (0, 2), 2, (3, (0, 0, 100 + 900)))
        self.assert_move(items, LineStyle(width=80), (0, 2), 3, (2, (0, 0, 100)))

    def test_two_hyphens_one_after_the_other(self):
        items = [BOX, HYPHEN, BOX, HYPHEN, BOX]
        style = LineStyle(width=46)
        self.assert_move(items, style, (2, 2), 4, (3, (0, 0, 1000)))
        self.assert_move(items, style, (2, 3), 4, (3, (0, 0, 4000)))
        self.assert_move(items, style, (4, 3), 5, (2, (0, 0, 100)))

    def test_classes_that_differ(self):
        items = [BOX, GLUE, BOX, GLUE, BOX]
        for width, kind, bad in ((85, 0, 100), (90, 1, 0), (105, 2, 42), (110, 3, 100)):
            for key in range(8):
                more = 3000 if abs(key // 2 - kind) > 1 else 0
                expected = (2 * kind, (0, 0, (10 + bad) ** 2 + more))
                self.assert_move(items, LineStyle(width=width), (0, key), 4, expected)

    def test_all_parts_of_a_cost(self):
        items = [BOX, GLUE, BOX, HYPHEN, BOX]
        expected = (1, (0, 1, 110 * 110 + 900 + 3000 + 3000))
        self.assert_move(items, LineStyle(width=91, tolerance=99), (0, 5), 4, expected)

    def test_one_piece_that_does_not_fit(self):
        self.assert_move([BOX], LineStyle(width=39), (0, 2), 1, (2, (1, 0, 0)))
        for key in range(8):
            self.assert_move([BOX, PENALTY, BOX], LineStyle(width=39, tolerance=0), (0, key), 2, (2, (1, 0, 0)))
            self.assert_move([BOX, HYPHEN, BOX], LineStyle(width=45), (0, key), 2, (3, (1, 0, 0)))
        self.assert_move([BOX, GLUE, BOX], LineStyle(width=45), (0, 2), 3, None)

    def test_many_moves(self):
        numbers = random.Random(5)
        for _ in range(150):
            items = line_oracle.some_items(numbers, 8)
            style = line_oracle.some_style(numbers, LineStyle)
            for end in range(1, len(items) + 1):
                for start in range(end):
                    for key in range(8):
                        expected = line_oracle.line_move(items, style, start, key, end)
                        self.assert_move(items, style, (start, key), end, expected)


class BreakingTest(unittest.TestCase):
    def assert_broken(self, items, style, ends, cost):
        with self.subTest(items=items, style=vars(style)):
            self.assertEqual(break_lines(items, style), (ends, cost))
            self.assertEqual(break_lines(tuple(items), style), (ends, cost))
            self.assertEqual(lines_cost(items, style, ends), cost)

    def test_the_example(self):
        style = LineStyle(width=100, tolerance=100)
        self.assert_broken([BOX, GLUE, BOX, GLUE, BOX, GLUE, BOX], style, [4, 7], (0, 0, 584))

    def test_the_empty_text(self):
        self.assert_broken([], LineStyle(width=100), [], (0, 0, 0))

    def test_forced_ends(self):
        style = LineStyle(width=1000)
        self.assert_broken([FORCED], style, [1], (0, 0, 100))
        self.assert_broken([BOX, FORCED, BOX], style, [2, 3], (0, 0, 200))
        self.assert_broken([BOX, FORCED], style, [2], (0, 0, 100))
        self.assert_broken([BOX, FORCED, FORCED, BOX], style, [2, 3, 4], (0, 0, 300))
        self.assert_broken([FORCED, BOX], style, [1, 2], (0, 0, 200))

    def test_words_that_are_too_wide(self):
        self.assert_broken([box(200)], LineStyle(width=100), [1], (1, 0, 0))
        items = [box(200), GLUE, box(200), HYPHEN, box(200)]
        self.assert_broken(items, LineStyle(width=100), [2, 4, 5], (3, 0, 0))

    def test_a_hyphen_that_is_wider_than_what_is_behind_it(self):
        items = [box(10), GLUE, box(10), ("hyphen", 20, 0, 0), box(5)]
        self.assertIsNone(line_move(items, LineStyle(width=35), 0, 2, 4))
        self.assert_broken(items, LineStyle(width=35), [5], (0, 0, 100))

    def test_ways_of_equal_cost(self):
        # The box in the middle fits into either line, at the same cost.
        items = [box(10), ("penalty", 5), box(0), ("penalty", 5), box(10)]
        style = LineStyle(width=10)
        self.assertEqual(lines_cost(items, style, [2, 5]), lines_cost(items, style, [4, 5]))
        self.assert_broken(items, style, [2, 5], (0, 0, 225))

    def test_keys_decide_between_later_lines(self):
        # A hyphen behind a hyphen costs 3000 points more than a line that is stretched.
        items = [BOX, HYPHEN, BOX, GLUE, box(26), HYPHEN, BOX]
        for width in range(40, 130, 3):
            for tolerance in (0, 200):
                style = LineStyle(width=width, tolerance=tolerance)
                self.assert_broken(items, style, *line_oracle.break_lines(items, style))

    def test_many_texts(self):
        numbers = random.Random(6)
        for _ in range(400):
            items = line_oracle.some_items(numbers, 10)
            style = line_oracle.some_style(numbers, LineStyle)
            self.assert_broken(items, style, *line_oracle.break_lines(items, style))

    def test_many_paragraphs(self):
        numbers = random.Random(7)
        for _ in range(60):
            items = []
            for _ in range(6):
                items += [box(numbers.randint(5, 40)), numbers.choice((GLUE, GLUE, HYPHEN, PENALTY, TIE))]
            for width in (50, 80, 100):
                style = LineStyle(width=width, first=numbers.randint(0, 10), justify=numbers.random() < 0.7, rag=20)
                self.assert_broken(items, style, *line_oracle.break_lines(items, style))

    def test_400_items(self):
        begin = time.process_time()
        for between in (GLUE, HYPHEN, PENALTY):
            for width in (0, 100, 1000, 10000):
                items = [box(20), between] * 200
                ends, cost = break_lines(items, LineStyle(width=width))
                self.assertEqual(ends[-1], 400)
                self.assertEqual(lines_cost(items, LineStyle(width=width), ends), cost)
        self.assertLess(time.process_time() - begin, 20)

    def test_items_are_not_changed(self):
        items = [BOX, GLUE, BOX]
        ends, _ = break_lines(items, LineStyle(width=50))
        ends.append(9)
        self.assertEqual(items, [BOX, GLUE, BOX])
        self.assertEqual(break_lines(items, LineStyle(width=50))[0], [2, 3])


class CostsTest(unittest.TestCase):
    def test_ways(self):
        items = [BOX, GLUE, BOX, GLUE, BOX, GLUE, BOX]
        style = LineStyle(width=100, tolerance=100)
        self.assertEqual(lines_cost(items, style, [4, 7]), (0, 0, 584))
        self.assertEqual(lines_cost(items, style, [2, 4, 7]), (0, 2, 2 * 10010 * 10010 + 3000 + 3000 + 100))
        self.assertEqual(lines_cost(items, style, [2, 6, 7]), (0, 1, 10010 * 10010 + 3000 + 22 * 22 + 3000 + 100))

    def test_lists_that_are_no_way(self):
        items = [BOX, GLUE, BOX, TIE, BOX, FORCED, BOX]
        style = LineStyle(width=100)
        self.assertIsNotNone(lines_cost(items, style, [2, 6, 7]))
        for ends in (
            [], [2], [2, 6], [7], [2, 7], [0, 2, 6, 7], [2, 2, 6, 7], [6, 2, 7], [2, 6, 7, 7], [2, 6, 7, 8], [1, 6, 7],
            [2, 4, 6, 7], [2, 6, 8], [-1, 2, 6, 7], [2, 6, -1], [8], [6, 7], [2, 6, 7, 6], [400],
        ):
            with self.subTest(ends=ends):
                self.assertIsNone(lines_cost(items, style, ends))

    def test_ways_in_the_empty_text(self):
        self.assertEqual(lines_cost([], LineStyle(width=100), []), (0, 0, 0))
        for ends in ([0], [1], [-1]):
            self.assertIsNone(lines_cost([], LineStyle(width=100), ends))

    def test_the_list_of_ends_is_not_changed(self):
        ends = [2, 3]
        lines_cost([BOX, GLUE, BOX], LineStyle(width=50), ends)
        self.assertEqual(ends, [2, 3])

    def test_all_ways_of_many_texts(self):
        numbers = random.Random(8)
        for _ in range(100):
            items = line_oracle.some_items(numbers, 6)
            style = line_oracle.some_style(numbers, LineStyle)
            ways = {tuple(end for end, _ in way): cost for cost, way in line_oracle.all_ways(items, style)}
            for chosen in range(2 ** len(items)):
                ends = [index + 1 for index in range(len(items)) if chosen >> index & 1]
                with self.subTest(items=items, style=vars(style), ends=ends):
                    self.assertEqual(lines_cost(items, style, ends), ways.get(tuple(ends)))


if __name__ == "__main__":
    unittest.main()
