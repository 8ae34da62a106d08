"""Points 55 to 58: tables."""

import random
import unittest

import block_oracle
from test_blocks import BlocksTest, font, line, ready, run, style, text, words

from folio.blocks import set_block
from folio.fonts import Font, Style


def cell(letters, columns=1):
    return (columns, words(letters) if letters else ())


def table(*rows, heads=0, **more):
    return ready("table", heads, rows=rows, **more)


def rule(x, y, width, height):
    return ("rule", x, y, width, height)


class PlacesTest(BlocksTest):
    def test_one_cell(self):
        # The demand is 30 + 1 + 2 * 2; the table is 36 wide and stands in the middle of 100.
        self.assert_set(
            table([cell("aaa")]),
            line(
                16, rule(32, 0, 36, 1), rule(32, 1, 1, 14), text(35, 3, "aaa"), rule(67, 1, 1, 14), rule(32, 15, 36, 1)
            ),
            styled=style(rule=1, cell_gap=2),
        )

    def test_two_rows(self):
        # The demands are 25, 25, 35 and 45; the table is 81 wide.
        self.assert_set(
            table([cell("aa"), cell("bb")], [cell("ccc"), cell("dddd")]),
            line(
                15, rule(9, 0, 81, 1), rule(9, 1, 1, 14), text(12, 3, "aa"), rule(44, 1, 1, 14), text(47, 3, "bb"),
                rule(89, 1, 1, 14),
            ),
            line(
                16, rule(9, 0, 81, 1), rule(9, 1, 1, 14), text(12, 3, "ccc"), rule(44, 1, 1, 14), text(47, 3, "dddd"),
                rule(89, 1, 1, 14), rule(9, 15, 81, 1),
            ),
            styled=style(rule=1, cell_gap=2),
        )

    def test_without_rule_and_gap(self):
        self.assert_set(
            table([cell("aa"), cell("b")]),
            line(
                10, rule(35, 0, 30, 0), rule(35, 0, 0, 10), text(35, 0, "aa"), rule(55, 0, 0, 10), text(55, 0, "b"),
                rule(65, 0, 0, 10), rule(35, 10, 30, 0),
            ),
        )

    def test_the_width_of_the_columns(self):
        # Least boundaries 0, 20, 40, wide ones 0, 80, 100, and the width 70.
        self.assert_set(
            table([cell("aa aa aa"), cell("bb")]),
            line(
                20, rule(0, 0, 70, 0), rule(0, 0, 0, 20), text(0, 0, "aa"), text(30, 0, "aa"), text(0, 10, "aa"),
                rule(50, 0, 0, 20), text(50, 0, "bb"), rule(70, 0, 0, 20), rule(0, 20, 70, 0),
            ),
            styled=style(width=70),
        )

    def test_a_table_that_is_wider_than_the_style(self):
        self.assert_set(
            table([cell("aaaa bbb")]),
            line(
                28, rule(0, 0, 48, 1), rule(0, 1, 1, 26), text(4, 4, "aaaa"), text(4, 14, "bbb"), rule(47, 1, 1, 26),
                rule(0, 27, 48, 1),
            ),
            styled=style(width=30, rule=1, cell_gap=3),
        )

    def test_a_rule_that_is_wider_than_the_style(self):
        found = set_block(style(width=5, rule=7), table([cell("a")]))
        expected = line(
            24, rule(0, 0, 24, 7), rule(0, 7, 7, 10), text(7, 7, "a"), rule(17, 7, 7, 10), rule(0, 17, 24, 7)
        )
        self.assertEqual(found[0], (expected,))

    def test_an_odd_rest_of_the_width(self):
        found = set_block(style(width=33, rule=0), table([cell("aa")]))
        self.assertEqual(found[0][0][1][0], rule(6, 0, 20, 0))


class CellsTest(BlocksTest):
    def draws(self, block, **more):
        return set_block(style(**more), block)[0]

    def test_cells_that_span_0_columns_span_1(self):
        for spans in ((0, 0), (0, 1), (1, 0)):
            block = table([(spans[0], words("aa")), (spans[1], words("b"))], [(0, words("c")), (1, ())])
            same = table([(1, words("aa")), (1, words("b"))], [(1, words("c")), (1, ())])
            self.assertEqual(set_block(style(), block), set_block(style(), same))

    def test_cells_that_span_columns(self):
        # The boundaries are 0, 20, 60, 80; the cell from 0 to 2 needs more than those below it.
        rows = [[cell("aaaaaa", 2), cell("bb")], [cell("cc"), cell("d"), cell("e")], [cell("", 3)]]
        self.assert_set(
            table(*rows),
            line(10, rule(10, 0, 80, 0), rule(10, 0, 0, 10), text(10, 0, "aaaaaa"), rule(70, 0, 0, 10),
                 text(70, 0, "bb"), rule(90, 0, 0, 10)),
            line(10, rule(10, 0, 80, 0), rule(10, 0, 0, 10), text(10, 0, "cc"), rule(30, 0, 0, 10), text(30, 0, "d"),
                 rule(70, 0, 0, 10), text(70, 0, "e"), rule(90, 0, 0, 10)),
            line(0, rule(10, 0, 80, 0), rule(10, 0, 0, 0), rule(90, 0, 0, 0), rule(10, 0, 80, 0)),
        )

    def test_shorter_rows(self):
        rows = [[cell("a"), cell("b"), cell("c")], [cell("d")], []]
        filled = [[cell("a"), cell("b"), cell("c")], [cell("d"), cell("", 2)], [cell("", 3)]]
        for more in ({}, {"rule": 2, "cell_gap": 3}):
            found = set_block(style(**more), table(*rows))
            self.assertEqual(found, set_block(style(**more), table(*filled)))
            self.assertEqual([len(part[1]) for part in found[0]], [8, 5, 4])

    def test_an_empty_cell_demands_the_rule_and_the_gaps(self):
        found = self.draws(table([cell("")]), rule=3, cell_gap=4)
        self.assertEqual(
            found, (line(14, rule(43, 0, 14, 3), rule(43, 3, 3, 8), rule(54, 3, 3, 8), rule(43, 11, 14, 3)),)
        )

    def test_the_height_of_a_row(self):
        rows = [[cell("a"), (1, (run("b", 4), ("line",), run("c", 1)))], [cell("d"), cell("")]]
        found = self.draws(table(*rows), rule=1, cell_gap=2)
        # The cells of the first row are 10 and 14 + 11 high; those of the second one 10 and 0.
        self.assertEqual([part[0] for part in found], [1 + 25 + 4, 1 + 10 + 4 + 1])
        self.assertIn(rule(34, 1, 1, 29), found[0][1])
        texts = [draw for draw in found[0][1] if draw[0] == "text"]
        self.assertEqual([draw[2] for draw in texts], [3, 3, 17])
        self.assertEqual(found[1][1][-1], rule(34, 15, 31, 1))

    def test_rows_without_cells(self):
        found = self.draws(table([], []), rule=2, cell_gap=3)
        self.assertEqual(found[0], line(8, rule(49, 0, 2, 2), rule(49, 2, 2, 6)))
        self.assertEqual(found[1], line(10, rule(49, 0, 2, 2), rule(49, 2, 2, 6), rule(49, 8, 2, 2)))

    def test_lines_of_cells_are_ragged(self):
        found = self.draws(table([cell("aaa bb cccc"), cell("dd")]), width=90)
        texts = [draw for draw in found[0][1] if draw[0] == "text"]
        self.assertEqual(texts, [text(0, 0, "aaa"), text(40, 0, "bb"), text(0, 10, "cccc"), text(70, 0, "dd")])

    def test_the_tolerance_and_the_rag_of_cells(self):
        # By the style every line but a full one would be bad; in cells none is.
        rows = [[(1, words("a b c ddddd eeeee")), cell("ffffff")]]
        found = {
            set_block(style(width=160, rag=rag, tolerance=tolerance), table(*rows))
            for rag, tolerance in ((0, 0), (30, 60), (30, 10000), (10000, 10000))
        }
        self.assertEqual(len(found), 1)

    def test_the_font_of_lines_without_any(self):
        found = self.draws(table([(1, (("label", "x"),))]), fonts=[font(12), font(11), font(11), font(30), font(40)])
        self.assertEqual(found[0][0], 12)

    def test_pages_in_cells(self):
        found = self.draws(table([(1, (("page", 1, 3, "x"),))]))
        self.assertIn(("page", 35, 0, 1, 3, "x"), found[0][1])


class MarksTest(BlocksTest):
    def test_notes_and_labels_in_order(self):
        first = (("note", 1), ("label", "a"), run("p"), ("space", 0), run("qqqqqqq"), ("note", 0), ("label", "b"))
        second = (("label", "d"), ("note", 2), ("note", 5), run("r"))
        notes = [(("label", "u"), run("x", 4)), (run("y", 4), ("label", "v")), (("label", "w"),)]
        found = set_block(style(), table([(1, first), (1, second)], [(1, (("label", "z"),))], notes=notes))[0]
        # All labels of the first cell come before those of its notes, although it has two lines.
        self.assertEqual(found[0][3], ("a", "b", "v", "u", "d", "w"))
        self.assertEqual(found[0][2], ((14, (text(0, 0, "y", 4),)), (14, (text(0, 0, "x", 4),)), (14, ())))
        self.assertEqual(found[1][2:], ((), ("z",)))

    def test_notes_are_as_wide_as_the_page(self):
        found = set_block(style(), table([(1, (("note", 0),))], notes=[words("aaa bbb cccc d", 4)]))[0]
        expected = (text(0, 0, "aaa", 4), text(70, 0, "bbb", 4), text(0, 14, "cccc", 4), text(50, 14, "d", 4))
        self.assertEqual(found[0][2], ((28, expected),))


class CaptionsTest(BlocksTest):
    LEAD = (run("T", 4), ("tie", 4), run("1", 4))

    def test_a_caption_and_rows(self):
        self.assert_set(
            table([cell("aa")], [cell("bb")], lead=self.LEAD),
            line(
                14 + 3 + 17, text(0, 0, "T", 4), text(20, 0, "1", 4), rule(36, 17, 28, 1), rule(36, 18, 1, 16),
                text(40, 21, "aa"), rule(63, 18, 1, 16),
            ),
            line(18, rule(36, 0, 28, 1), rule(36, 1, 1, 16), text(40, 4, "bb"), rule(63, 1, 1, 16), rule(36, 17, 28, 1)),
            styled=style(rule=1, cell_gap=3, indent=20),
        )

    def test_a_caption_of_several_lines(self):
        found = set_block(style(cell_gap=2), table([cell("a")], lead=self.LEAD, body=words("bbbb cccccc ddd", 4)))[0]
        self.assertEqual(len(found), 1)
        self.assertEqual(found[0][0], 14 + 14 + 2 + 14)
        texts = [draw for draw in found[0][1] if draw[0] == "text"]
        self.assertEqual(
            texts,
            [
                text(0, 0, "T", 4), text(20, 0, "1", 4), text(30, 0, "bbbb", 4), text(0, 14, "cccccc", 4),
                text(70, 14, "ddd", 4), text(45, 32, "a"),
            ],
        )

    def test_notes_and_labels_of_a_caption(self):
        body = (run("aaaaaa"), ("label", "x"), ("note", 1), ("space", 0), run("bbbbbb"), ("label", "y"))
        cells = [(1, (("label", "z"), ("note", 0)))]
        notes = [(("label", "u"),), (run("c", 4), ("label", "v"))]
        found = set_block(style(), table(cells, [cell("d")], body=body, notes=notes))[0]
        self.assertEqual(found[0][2:], (((14, (text(0, 0, "c", 4),)), (14, ())), ("x", "v", "y", "z", "u")))
        self.assertEqual(found[1][2:], ((), ()))

    def test_a_caption_without_rows(self):
        body = (run("aaaaaa"), ("label", "x"), ("note", 0), ("space", 0), run("bbbbbb"))
        for heads in (0, 1, 3):
            self.assert_set(
                table(heads=heads, body=body, notes=[(run("c", 4),)]),
                line(10, text(0, 0, "aaaaaa"), notes=[(14, (text(0, 0, "c", 4),))], labels=["x"]),
                line(10, text(0, 0, "bbbbbb")),
                styled=style(cell_gap=5),
            )

    def test_rows_without_a_caption(self):
        found = set_block(style(cell_gap=5), table([cell("a")]))[0]
        self.assertEqual([part[0] for part in found], [20])

    def test_neither_rows_nor_a_caption(self):
        self.assert_set(table(heads=2))

    def test_heads(self):
        rows = [[cell("a")], [cell("b")], [cell("c")]]
        for heads, expected in ((0, 0), (1, 1), (2, 2), (3, 2), (9, 2)):
            for lead in ((), self.LEAD):
                found = set_block(style(), table(*rows, heads=heads, lead=lead))
                self.assertEqual(found[1:], (expected, False, False, False))
                self.assertEqual(len(found[0]), 3)
        self.assertEqual(set_block(style(), table([cell("a")], heads=1))[1], 0)


class ManyTablesTest(unittest.TestCase):
    def test_many_tables(self):
        numbers = random.Random(55)
        made = 0
        while made < 400:
            block = block_oracle.some_ready(numbers)
            if block[0][0] == "table":
                made += 1
                styled = block_oracle.some_style(numbers, Font, Style)
                with self.subTest(block=block):
                    self.assertEqual(set_block(styled, block), block_oracle.set_block(styled, block))


if __name__ == "__main__":
    unittest.main()
