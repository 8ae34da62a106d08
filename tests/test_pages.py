"""Points 59 to 63 (and 4 to 7) and the section folio/pages.py of the interface."""

import copy
import itertools
import random
import unittest

import page_oracle

from folio.fonts import Font, Style
from folio.pages import (
    cost_of_pages, first_rows, page_content, page_ends, page_items, page_may_end, page_move, page_rows, pages_of,
)

FONT = Font(line=10, space=0, stretch=0, shrink=0, figure=1, other=1)
END = ("end",)
GAP = ("space", 5, True)
TIGHT = ("space", 5, False)
PENALTY = ("penalty", 7)
FLOAT = ("float", 9, 10)


def style(**more):
    return Style(**{"width": 50, "height": 30, "fonts": [FONT], **more})


def item(height=10, notes=0, head=0, block=0, line=0):
    return ("line", block, line, height, notes, head)


def line(height=10, *notes):
    return (height, (), tuple((note, ()) for note in notes), ())


def block(*lines, heads=0, is_float=False, ends=False, keeps=False):
    return (lines, heads, is_float, ends, keeps)


def chosen(styled, items):
    return page_ends(page_rows(styled, items, first_rows()))


def pages(styled, items):
    return pages_of(styled, items, chosen(styled, items)[1])


class ItemsTest(unittest.TestCase):
    STYLE = style(gap=6, orphan=50, widow=300)

    def assert_items(self, blocks, *expected):
        with self.subTest(blocks=blocks):
            found = page_items(self.STYLE, blocks)
            self.assertIs(type(found), list)
            self.assertEqual(found, list(expected))

    def test_one_line(self):
        self.assert_items([block(line(11))], ("line", 0, 0, 11, 0, 0), ("space", 6, True))

    def test_two_lines(self):
        self.assert_items(
            [block(line(11), line(12))],
            ("line", 0, 0, 11, 0, 0), ("penalty", 350), ("line", 0, 1, 12, 0, 0), ("space", 6, True),
        )

    def test_three_lines(self):
        self.assert_items(
            [block(line(), line(), line())],
            ("line", 0, 0, 10, 0, 0), ("penalty", 50), ("line", 0, 1, 10, 0, 0), ("penalty", 300),
            ("line", 0, 2, 10, 0, 0), ("space", 6, True),
        )

    def test_more_lines(self):
        found = page_items(self.STYLE, [block(*[line() for _ in range(6)])])
        self.assertEqual([part for part in found if part[0] == "penalty"], [
            ("penalty", 50), ("penalty", 0), ("penalty", 0), ("penalty", 0), ("penalty", 300),
        ])

    def test_ends_and_space(self):
        self.assert_items([block(line(), ends=True)], ("line", 0, 0, 10, 0, 0), END)
        self.assert_items([block(line(), keeps=True)], ("line", 0, 0, 10, 0, 0), ("space", 6, False))
        self.assert_items([block(line(), ends=True, keeps=True)], ("line", 0, 0, 10, 0, 0), END)

    def test_blocks_without_lines(self):
        self.assert_items([block()])
        self.assert_items([block(keeps=True)])
        self.assert_items([block(ends=True)], END)
        self.assert_items([])
        self.assert_items([block(), block(line())], ("line", 1, 0, 10, 0, 0), ("space", 6, True))

    def test_floats(self):
        self.assert_items([block(line(11), line(12, 4), is_float=True)], ("float", 0, 23))
        self.assert_items(
            [block(line()), block(line(7), is_float=True)],
            ("line", 0, 0, 10, 0, 0), ("space", 6, True), ("float", 1, 7),
        )

    def test_notes(self):
        self.assert_items([block(line(11, 4, 5))], ("line", 0, 0, 11, 9, 0), ("space", 6, True))

    def test_heads(self):
        found = page_items(self.STYLE, [block(line()), block(line(11, 3), line(12), line(13), line(14), heads=2)])
        self.assertEqual([part for part in found if part[0] == "line"], [
            ("line", 0, 0, 10, 0, 0), ("line", 1, 0, 11, 3, 0), ("line", 1, 1, 12, 0, 0), ("line", 1, 2, 13, 0, 23),
            ("line", 1, 3, 14, 0, 23),
        ])
        self.assertEqual([part[1] for part in found if part[0] == "penalty"], [50, 0, 300])


class MayEndTest(unittest.TestCase):
    def assert_ends(self, items, *expected):
        with self.subTest(items=items):
            found = [page_may_end(items, position) for position in range(len(items) + 1)]
            self.assertEqual([position for position, may in enumerate(found) if may is True], list(expected))
            self.assertTrue(all(type(may) is bool for may in found))

    def test_the_end_of_the_items(self):
        for last in (item(), FLOAT, TIGHT, GAP, PENALTY, END):
            self.assert_ends([last], 1)
            self.assert_ends([item(), item(), last], 3)

    def test_penalties_and_ends(self):
        self.assert_ends([item(), PENALTY, item(), END, item()], 2, 4, 5)
        self.assert_ends([PENALTY, END, item()], 1, 2, 3)

    def test_free_space_behind_a_line(self):
        self.assert_ends([item(), GAP, item()], 2, 3)
        self.assert_ends([item(), TIGHT, item()], 3)
        self.assert_ends([GAP, item()], 2)
        self.assert_ends([item(), GAP, GAP, item()], 2, 4)
        self.assert_ends([item(), TIGHT, GAP, item()], 4)
        self.assert_ends([item(), PENALTY, GAP, item()], 2, 4)
        self.assert_ends([item(), END, GAP, item()], 2, 4)

    def test_free_space_behind_floats(self):
        self.assert_ends([item(), FLOAT, FLOAT, GAP, item()], 4, 5)
        self.assert_ends([FLOAT, GAP, item()], 3)
        self.assert_ends([item(), GAP, FLOAT, GAP, item()], 2, 5)

    def test_positions_that_are_none(self):
        self.assertIs(page_may_end([item()], 0), False)
        self.assertIs(page_may_end([item()], 2), False)
        self.assertIs(page_may_end([], 0), False)

    def test_a_page_is_possible(self):
        # No page goes on behind an end, but one may end at it.
        items = [item(), END, item(), GAP]
        self.assertIsNotNone(page_move(style(), items, 0, 0, 2, 0))
        self.assertIsNotNone(page_move(style(), items, 2, 0, 4, 0))
        self.assertIsNone(page_move(style(), items, 0, 0, 4, 0))
        self.assertIsNone(page_move(style(), items, 1, 0, 4, 0))
        self.assertIsNotNone(page_move(style(), items, 1, 0, 2, 0))
        self.assertIsNone(page_move(style(), items, 0, 0, 1, 0))


class ContentTest(unittest.TestCase):
    def assert_content(self, items, expected):
        found = page_content(items, 0, len(items))
        self.assertIs(type(found), list)
        self.assertEqual(found, expected)

    def test_both_ends(self):
        one, other = item(line=1), item(line=2)
        for before, behind in itertools.product(([], [GAP], [PENALTY, TIGHT], [END], [FLOAT], [GAP, FLOAT, GAP]), repeat=2):
            self.assert_content([*before, one, *behind], [one])
            self.assert_content([*before, one, GAP, PENALTY, other, *behind], [one, GAP, PENALTY, other])

    def test_floats_between_lines(self):
        self.assert_content([item(), FLOAT, GAP, FLOAT, item()], [item(), GAP, item()])

    def test_no_lines(self):
        self.assert_content([], [])
        self.assert_content([GAP, FLOAT, PENALTY, END], [])

    def test_parts_of_the_items(self):
        items = [item(line=0), GAP, item(line=1), PENALTY, item(line=2)]
        self.assertEqual(page_content(items, 1, 4), [item(line=1)])
        self.assertEqual(page_content(items, 1, 5), items[2:])
        self.assertEqual(page_content(items, 1, 2), [])
        self.assertEqual(page_content(items, 3, 3), [])

    def test_the_items_are_not_changed(self):
        items = [GAP, item(), GAP]
        page_content(items, 0, 3).clear()
        self.assertEqual(items, [GAP, item(), GAP])


class MoveTest(unittest.TestCase):
    """What a page uses is seen in the points for the height that is left."""

    def assert_used(self, items, used, end=None, floats=(0, 0), **more):
        """The items up to the end are on a page on which nothing else gives points."""
        styled = style(height=100, **more)
        items = items + [item(90)]
        end = len(items) - 1 if end is None else end
        with self.subTest(items=items):
            cost = page_move(styled, items, 0, floats[0], end, floats[1])
            self.assertEqual(cost, (0, 0, (100 - used) ** 2))

    def test_lines_and_space(self):
        self.assert_used([item(), GAP], 10)
        self.assert_used([item(), TIGHT, item(12), GAP], 27)
        self.assert_used([item(), GAP, GAP, item(), GAP], 30)
        self.assert_used([GAP, TIGHT, item(), GAP], 10)

    def test_the_head(self):
        self.assert_used([item(head=7), TIGHT, item(), GAP], 32)
        self.assert_used([item(), TIGHT, item(head=7), GAP], 25)
        self.assert_used([TIGHT, item(head=7), TIGHT, item(head=9), GAP], 32)

    def test_the_notes(self):
        self.assert_used([item(notes=3), GAP], 17, note_gap=4)
        self.assert_used([item(notes=3), TIGHT, item(notes=2), GAP], 34, note_gap=4)
        self.assert_used([item(notes=1), GAP], 15, note_gap=4)
        self.assert_used([item(), GAP], 10, note_gap=4)

    def test_the_floats(self):
        floats = [("float", 1, 11), ("float", 2, 12), ("float", 3, 13)]
        items = floats + [item(), GAP]
        self.assert_used(items, 10 + 11 + 2, floats=(0, 1), float_gap=2)
        self.assert_used(items, 10 + 36 + 6, floats=(0, 3), float_gap=2)
        behind = floats + [END, item(), GAP, item(90)]
        styled = style(height=100, float_gap=2)
        self.assertEqual(page_move(styled, behind, 4, 1, 6, 3), (0, 0, (100 - 10 - 25 - 4) ** 2))
        self.assertEqual(page_move(styled, behind, 4, 3, 6, 3), (0, 0, 90 ** 2))

    def test_the_height_that_is_left(self):
        items = [item(19), GAP, item()]
        self.assertEqual(page_move(style(height=30), items, 0, 0, 2, 0), (0, 0, 36 ** 2))
        self.assertEqual(page_move(style(height=19), items, 0, 0, 2, 0), (0, 0, 0))
        self.assertEqual(page_move(style(height=300), items, 0, 0, 2, 0), (0, 0, 93 ** 2))

    def test_nothing_is_left_at_the_end(self):
        self.assertEqual(page_move(style(), [item()], 0, 0, 1, 0), (0, 0, 0))
        self.assertEqual(page_move(style(), [item(), GAP], 0, 0, 2, 0), (0, 0, 0))
        self.assertEqual(page_move(style(), [item(), END, item()], 0, 0, 2, 0), (0, 0, 0))

    def test_penalties(self):
        self.assertEqual(page_move(style(height=10), [item(), PENALTY, item()], 0, 0, 2, 0), (0, 0, 7))
        self.assertEqual(page_move(style(height=20), [item(), PENALTY, item()], 0, 0, 2, 0), (0, 0, 2507))
        self.assertEqual(page_move(style(), [item(), PENALTY], 0, 0, 2, 0), (0, 0, 7))
        # A penalty in the page costs nothing.
        self.assertEqual(page_move(style(), [item(), PENALTY, item()], 0, 0, 3, 0), (0, 0, 0))

    def test_floats_that_wait(self):
        items = [FLOAT, item(), FLOAT, GAP, FLOAT]
        styled = style(wait=100, height=10)
        self.assertEqual(page_move(styled, items, 0, 0, 4, 0), (0, 0, 200))
        self.assertEqual(page_move(style(wait=100, height=20), items, 0, 0, 4, 1), (0, 0, 100))
        self.assertEqual(page_move(style(wait=100, height=30), items, 0, 0, 4, 2), (0, 0, 0))
        self.assertIsNone(page_move(style(wait=100, height=40), items, 0, 0, 4, 3))
        self.assertEqual(page_move(style(wait=100, height=40), items, 0, 0, 5, 3), (0, 0, 0))
        self.assertEqual(page_move(styled, items, 0, 0, 5, 0), (0, 0, 300))

    def test_blank_pages(self):
        items = [END, FLOAT, END, item()]
        self.assertEqual(page_move(style(), items, 0, 0, 1, 0), (0, 1, 0))
        self.assertEqual(page_move(style(wait=9), items, 1, 0, 3, 0), (0, 1, 9))
        self.assertEqual(page_move(style(wait=9), items, 1, 0, 3, 1), (0, 0, 0))
        self.assertEqual(page_move(style(height=50), [item(), TIGHT, PENALTY, item()], 1, 0, 3, 0), (0, 1, 10007))

    def test_stops_that_are_none(self):
        items = [FLOAT, item(), GAP, FLOAT, item(), GAP]
        styled = style(height=100)
        self.assertIsNone(page_move(styled, items, 3, 2, 6, 2))
        self.assertIsNotNone(page_move(styled, items, 4, 2, 6, 2))
        self.assertIsNone(page_move(styled, items, 0, 1, 3, 1))
        self.assertIsNone(page_move(styled, items, 3, 1, 6, 0))
        self.assertIsNone(page_move(styled, items, 0, 0, 3, 2))
        self.assertIsNone(page_move(styled, items, 3, 1, 3, 1))
        self.assertIsNone(page_move(styled, items, 6, 1, 3, 1))
        self.assertIsNone(page_move(styled, items, 3, 1, 7, 1))
        self.assertIsNone(page_move(styled, items, 0, 0, 2, 0))

    def test_one_piece(self):
        # A line that is too high stands alone, with what vanishes around it.
        for before, behind in itertools.product(([], [GAP], [FLOAT, TIGHT]), ([], [GAP], [FLOAT, GAP])):
            items = [*before, item(31), *behind]
            self.assertEqual(page_move(style(), items, 0, 0, len(items), 0), (1, 0, 0))
        self.assertEqual(page_move(style(), [item(20), TIGHT, item(20)], 0, 0, 3, 0), (1, 0, 0))
        self.assertIsNone(page_move(style(), [item(20), GAP, item(20)], 0, 0, 3, 0))
        self.assertIsNone(page_move(style(), [item(20), PENALTY, item(20)], 0, 0, 3, 0))
        # A place before or behind the content does not count.
        self.assertEqual(page_move(style(), [GAP, PENALTY, item(31), PENALTY, PENALTY], 0, 0, 5, 0), (1, 0, 0))
        self.assertIsNone(page_move(style(), [item(20), PENALTY, FLOAT, PENALTY, item(20)], 0, 0, 5, 0))

    def test_one_piece_has_no_floats_and_no_points(self):
        items = [FLOAT, item(31), PENALTY, item()]
        styled = style(wait=100, float_gap=1)
        self.assertEqual(page_move(styled, items, 0, 0, 3, 0), (1, 0, 100))
        self.assertIsNone(page_move(styled, items, 0, 0, 3, 1))
        self.assertEqual(page_move(styled, [item(25), PENALTY, item()], 0, 0, 2, 0), (0, 0, 16 ** 2 + 7))
        # It is one piece, and it fits; with the float it does not fit.
        self.assertIsNone(page_move(styled, [FLOAT, item(25)], 0, 0, 2, 1))

    def test_one_piece_by_its_head_and_notes(self):
        self.assertEqual(page_move(style(), [item(20, head=11)], 0, 0, 1, 0), (1, 0, 0))
        self.assertEqual(page_move(style(), [item(20, head=10)], 0, 0, 1, 0), (0, 0, 0))
        self.assertEqual(page_move(style(note_gap=2), [item(20, notes=9)], 0, 0, 1, 0), (1, 0, 0))
        self.assertEqual(page_move(style(note_gap=2), [item(20, notes=8)], 0, 0, 1, 0), (0, 0, 0))
        self.assertIsNone(page_move(style(), [item(10, head=11), PENALTY, item()], 0, 0, 3, 0))


class RowsTest(unittest.TestCase):
    def test_the_first_row(self):
        self.assertEqual(first_rows(), [[(0, (0, 0, 0), ())]])
        first_rows().append(1)
        first_rows()[0].append(1)
        self.assertEqual(first_rows(), [[(0, (0, 0, 0), ())]])

    def test_the_example(self):
        styled = style(gap=5, orphan=50, widow=50)
        items = page_items(styled, [block(line(), line(), line()), block(line(), line())])
        self.assertEqual(len(items), 10)
        self.assertEqual([position for position in range(11) if page_may_end(items, position)], [2, 4, 6, 8, 10])
        self.assertEqual(chosen(styled, items), ((0, 0, 0), ((6, 0), (10, 0))))

    def test_no_items(self):
        rows = page_rows(style(), [], first_rows())
        self.assertEqual(rows, first_rows())
        self.assertEqual(page_ends(rows), ((0, 0, 0), ()))
        self.assertEqual(pages_of(style(), [], []), [])
        self.assertEqual(cost_of_pages(style(), [], []), (0, 0, 0))

    def test_rows_of_positions_at_which_no_page_ends(self):
        rows = page_rows(style(), [item(), TIGHT, item()], first_rows())
        self.assertEqual(rows, [[(0, (0, 0, 0), ())], [], [], [(0, (0, 0, 0), ((3, 0),))]])

    def test_a_row_for_each_number_of_floats(self):
        items = [FLOAT, FLOAT, item(), GAP, item()]
        rows = page_rows(style(wait=10), items, first_rows())
        self.assertEqual(rows[4], [
            (0, (0, 0, 66 ** 2 + 20), ((4, 0),)), (1, (0, 0, 33 ** 2 + 10), ((4, 1),)), (2, (0, 0, 0), ((4, 2),)),
        ])
        self.assertEqual([entry[0] for entry in rows[5]], [0, 1, 2])

    def test_several_ends_side_by_side(self):
        items = [END, END, item(), END, END]
        cost, way = chosen(style(), items)
        self.assertEqual((cost, way), ((0, 3, 0), ((1, 0), (2, 0), (4, 0), (5, 0))))
        self.assertEqual(pages_of(style(), items, way), [
            (0, 1, 0, 0, (0, 1, 0)), (1, 2, 0, 0, (0, 1, 0)), (2, 4, 0, 0, (0, 0, 0)), (4, 5, 0, 0, (0, 1, 0)),
        ])

    def test_of_equal_ways_the_least_one_is_chosen(self):
        # The floats can come on the first page or on the second one.
        items = [FLOAT, item(), END, item(), END]
        self.assertEqual(chosen(style(), items), ((0, 0, 0), ((3, 0), (5, 0))))
        rows = page_rows(style(), items, first_rows())
        self.assertEqual(rows[5], [
            (0, (0, 0, 0), ((3, 0), (5, 0))), (1, (0, 0, 0), ((3, 0), (5, 1))),
        ])
        self.assertEqual(chosen(style(wait=1), items), ((0, 0, 0), ((3, 1), (5, 1))))
        # Each line can stand on a page alone, or two together; the first stop decides.
        items = [item(15), PENALTY, item(15), PENALTY, item(15)]
        self.assertEqual(chosen(style(), items)[1], ((4, 0), (5, 0)))
        items = [item(30), ("penalty", 0), item(0), ("penalty", 0), item(30)]
        self.assertEqual(chosen(style(), items), ((0, 0, 0), ((2, 0), (5, 0))))

    def test_rows_that_are_taken_over(self):
        styled = style(wait=10)
        items = [FLOAT, item(), GAP, item(20), GAP, item(), PENALTY, item()]
        rows = page_rows(styled, items, first_rows())
        for count in range(1, len(rows) + 1):
            self.assertEqual(page_rows(styled, items, rows[:count]), rows)

    def test_rows_are_taken_over_as_they_are(self):
        marked = [(0, (0, 0, 5000), ((2, 0),)), (7, (0, 5, 5), ((1, 0), (2, 7)))]
        rows = page_rows(style(), [item(), GAP, item(), GAP, item()], first_rows() + [[], marked])
        self.assertEqual(rows[:3], first_rows() + [[], marked])
        self.assertEqual(rows[4], [(0, (0, 0, 16 ** 2), ((4, 0),))])
        # A stop with more floats than there are is none from which a move leads.
        rows = page_rows(style(), [item(30), GAP, item(30), GAP, item(30)], first_rows() + [[], marked])
        self.assertEqual(rows[4], [(0, (0, 0, 5000), ((2, 0), (4, 0)))])

    def test_rows_are_not_changed(self):
        items = [item(), GAP, item()]
        rows = first_rows()
        found = page_rows(style(), items, rows)
        self.assertEqual(rows, first_rows())
        found[0].append(1)
        found.clear()
        self.assertEqual(rows, first_rows())
        self.assertEqual(items, [item(), GAP, item()])

    def test_many_rows(self):
        numbers = random.Random(62)
        for _ in range(600):
            styled = page_oracle.some_style(numbers, Style, FONT)
            items = page_items(styled, page_oracle.some_blocks(numbers, 5))[:18]
            if numbers.random() < 0.6:
                items = page_oracle.some_items(numbers, 13)
            with self.subTest(items=items):
                before = copy.deepcopy(items)
                rows = page_rows(styled, items, first_rows())
                expected = page_oracle.rows(styled, items)
                self.assertEqual(rows, expected)
                cost, way = min(entry[1:] for entry in expected[-1])
                self.assertEqual(page_ends(rows), (cost, way))
                found = pages_of(styled, items, way)
                self.assertEqual(found, page_oracle.pages(styled, items, way))
                self.assertEqual(cost_of_pages(styled, items, list(way)), cost)
                self.assertEqual(items, before)

    def test_many_items(self):
        numbers = random.Random(59)
        for _ in range(400):
            styled = page_oracle.some_style(numbers, Style, FONT)
            blocks = page_oracle.some_blocks(numbers, 6)
            self.assertEqual(page_items(styled, blocks), page_oracle.page_items(styled, blocks))
            items = page_oracle.some_items(numbers, 9)
            for i in range(len(items) + 1):
                self.assertEqual(page_may_end(items, i), page_oracle.may_end(items, i))
                for j in range(i + 1, len(items) + 1):
                    self.assertEqual(page_content(items, i, j), page_oracle.content(items, i, j))

    def test_many_moves(self):
        numbers = random.Random(61)
        for _ in range(200):
            styled = page_oracle.some_style(numbers, Style, FONT)
            items = page_oracle.some_items(numbers, 8)
            count = len(page_oracle.floats(items))
            for i, a, j, b in itertools.product(range(len(items) + 1), range(count + 1), range(len(items) + 2), range(count + 1)):
                with self.subTest(items=items, move=(i, a, j, b)):
                    self.assertEqual(page_move(styled, items, i, a, j, b), page_oracle.move(styled, items, i, a, j, b))


class CostTest(unittest.TestCase):
    ITEMS = [FLOAT, item(20), GAP, item(20), GAP]

    def test_ways(self):
        styled = style(wait=10)
        first = (0, 0, 33 ** 2 + 10)
        self.assertEqual(cost_of_pages(styled, self.ITEMS, [(3, 0), (5, 0)]), (0, 0, first[2] + 10))
        self.assertEqual(cost_of_pages(styled, self.ITEMS, [(3, 0), (5, 1)]), first)
        self.assertEqual(cost_of_pages(styled, self.ITEMS, [(3, 1), (5, 1)]), (0, 0, 0))
        self.assertEqual(cost_of_pages(styled, self.ITEMS, ((3, 1), (5, 1))), (0, 0, 0))

    def test_ways_that_are_none(self):
        styled = style()
        for ends in (
            [], [(3, 0)], [(5, 0)], [(2, 0), (5, 0)], [(3, 2), (5, 2)], [(3, 1), (5, 0)], [(3, 0), (3, 0), (5, 0)],
            [(3, 0), (6, 0)], [(5, 0), (3, 0)], [(3, 0), (5, 0), (6, 0)], [(0, 0), (3, 0), (5, 0)], [(3, 0), (5, 2)],
        ):
            with self.subTest(ends=ends):
                self.assertIsNone(cost_of_pages(styled, self.ITEMS, ends))
        self.assertIsNone(cost_of_pages(styled, [], [(1, 0)]))
        self.assertIsNone(cost_of_pages(styled, [], [(0, 0)]))

    def test_the_ends_are_not_changed(self):
        ends = [(3, 0), (5, 1)]
        cost_of_pages(style(), self.ITEMS, ends)
        self.assertEqual(ends, [(3, 0), (5, 1)])


class PagesTest(unittest.TestCase):
    def test_pages(self):
        items = [FLOAT, item(20), GAP, item(20), GAP]
        self.assertEqual(
            pages_of(style(wait=10), items, [(3, 0), (5, 1)]),
            [(0, 3, 0, 0, (0, 0, 33 ** 2 + 10)), (3, 5, 0, 1, (0, 0, 0))],
        )

    def test_blank_pages_stay_where_they_end_at_an_end(self):
        self.assertEqual(pages(style(), [END]), [(0, 1, 0, 0, (0, 1, 0))])
        self.assertEqual(pages(style(), [item(), END]), [(0, 2, 0, 0, (0, 0, 0))])

    def test_other_blank_pages_vanish(self):
        items = [item(30), PENALTY, PENALTY, item(30)]
        styled = style()
        self.assertEqual(
            pages_of(styled, items, [(2, 0), (3, 0), (4, 0)]), [(0, 2, 0, 0, (0, 0, 7)), (3, 4, 0, 0, (0, 0, 0))]
        )
        # Nothing but a place for a float is behind the end of the first page.
        self.assertEqual(pages(style(height=10), [item(), END, ("float", 1, 30)]), [
            (0, 2, 0, 0, (0, 0, 0)), (3, 3, 0, 1, None),
        ])
        self.assertEqual(pages(style(), [TIGHT]), [])

    def test_pages_with_floats_alone_are_not_blank(self):
        items = [FLOAT, END, item()]
        self.assertEqual(
            pages_of(style(), items, [(2, 1), (3, 1)]), [(0, 2, 0, 1, (0, 0, 0)), (2, 3, 1, 1, (0, 0, 0))]
        )
        items = [FLOAT, item(30), PENALTY, PENALTY, item(30)]
        found = pages_of(style(), items, [(3, 0), (4, 1), (5, 1)])
        self.assertEqual([page[:4] for page in found], [(0, 3, 0, 0), (3, 4, 0, 1), (4, 5, 1, 1)])

    def test_pages_of_floats(self):
        items = [("float", number, height) for number, height in enumerate((10, 8, 8, 40, 40, 5))] + [item(30)]
        styled = style(float_gap=2)
        self.assertEqual(
            pages_of(styled, items, [(7, 0)]),
            [
                (0, 7, 0, 0, (0, 0, 0)), (7, 7, 0, 2, None), (7, 7, 2, 3, None), (7, 7, 3, 4, None), (7, 7, 4, 5, None),
                (7, 7, 5, 6, None),
            ],
        )
        # Each float needs its own gap, the last one, too.
        for gap, ends in ((0, [3]), (2, [2, 3])):
            items = [("float", number, 10) for number in range(3)] + [item(30)]
            found = pages_of(style(float_gap=gap), items, [(4, 0)])
            self.assertEqual([page[3] for page in found[1:]], ends)

    def test_floats_that_are_left_by_the_chosen_way(self):
        items = [item(30), GAP, ("float", 1, 31), ("float", 2, 10)]
        self.assertEqual(pages(style(wait=5), items), [
            (0, 4, 0, 0, (0, 0, 10)), (4, 4, 0, 1, None), (4, 4, 1, 2, None),
        ])
        # Floats alone are items, too.
        self.assertEqual(pages(style(), [("float", 0, 20), ("float", 1, 20)]), [
            (0, 2, 0, 1, (0, 0, 0)), (2, 2, 1, 2, None),
        ])


if __name__ == "__main__":
    unittest.main()
