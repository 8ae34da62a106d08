"""Points 48 to 54 and the section folio/blocks.py of the interface; tables are in test_grids.py."""

import copy
import random
import unittest

import block_oracle

from folio.blocks import set_block
from folio.fonts import Font, Style

SPACE = ("space", 0)
LINE = ("line",)


def font(line=10, **more):
    numbers = {"space": 10, "stretch": 10, "shrink": 5, "figure": 10, "other": 10}
    return Font(line=line, **{**numbers, **more})


def style(**more):
    """A style in which a letter of each font is 10 wide; the lines of the fonts 0 to 4 are 10 to 14 high."""
    numbers = {"width": 100, "height": 200, "fonts": [font(10 + number) for number in range(5)], "rag": 50}
    return Style(**{**numbers, "tolerance": 10000, **more})


def run(letters, number=0):
    return ("run", number, letters)


def text(x, y, letters, number=0):
    return ("text", x, y, number, tuple(ord(letter) for letter in letters))


def words(many, number=0):
    """The atoms of words with spaces between them."""
    found = []
    for word in many.split(" "):
        found += [run(word, number), ("space", number)]
    return tuple(found[:-1])


def ready(*kind, lead=(), body=(), notes=(), rows=(), entries=()):
    return (kind, tuple(lead), tuple(body), tuple(notes), tuple(rows), tuple(entries))


def line(height, *draws, notes=(), labels=()):
    return (height, draws, tuple(notes), tuple(labels))


class BlocksTest(unittest.TestCase):
    def assert_set(self, block, *lines, styled=None, heads=0, is_float=False, ends=False, keeps=False):
        with self.subTest(block=block):
            found = set_block(styled or style(), block)
            self.assertEqual(found, (lines, heads, is_float, ends, keeps))
            self.assertEqual([type(part) for part in found], [tuple, int, bool, bool, bool])


class KindsTest(BlocksTest):
    def test_paragraphs(self):
        # The first line is indented; the last one is not stretched.
        block = ready("para", body=words("aaa bbb cc dd e"))
        self.assert_set(
            block,
            line(10, text(20, 0, "aaa"), text(70, 0, "bbb")),
            line(10, text(0, 0, "cc"), text(30, 0, "dd"), text(60, 0, "e")),
            styled=style(indent=20, width=100, fonts=[font(stretch=50)]),
        )

    def test_paragraphs_are_justified(self):
        body = words("aaa bbb cccc d")
        self.assert_set(
            ready("para", body=body),
            line(10, text(0, 0, "aaa"), text(70, 0, "bbb")), line(10, text(0, 0, "cccc"), text(50, 0, "d")),
        )
        self.assert_set(
            ready("para", body=body),
            line(10, text(0, 0, "aaa"), text(40, 0, "bbb")), line(10, text(0, 0, "cccc"), text(50, 0, "d")),
            styled=style(justify=False),
        )

    def test_headings(self):
        for level in (1, 2, 3):
            self.assert_set(
                ready("head", level, body=words("aaa bbb cccc d", 3)),
                line(13, text(0, 0, "aaa", 3), text(40, 0, "bbb", 3)),
                line(13, text(0, 0, "cccc", 3), text(50, 0, "d", 3)),
                styled=style(indent=20), keeps=True,
            )

    def test_quotations(self):
        # The room is the width less the indent on both sides.
        self.assert_set(
            ready("quote", body=words("aa bb cc d")),
            line(10, text(20, 0, "aa"), text(60, 0, "bb")), line(10, text(20, 0, "cc"), text(50, 0, "d")),
            styled=style(indent=20),
        )
        self.assert_set(
            ready("quote", body=words("a b c")), line(10, text(40, 0, "a")), line(10, text(40, 0, "b")),
            line(10, text(40, 0, "c")), styled=style(indent=40),
        )
        # Where the indents leave no room at all, each line has one piece.
        self.assert_set(
            ready("quote", body=words("a b")), line(10, text(80, 0, "a")), line(10, text(80, 0, "b")),
            styled=style(indent=80),
        )

    def test_ends_of_pages(self):
        self.assert_set(ready("page_end"), ends=True)

    def test_kinds_with_an_empty_text(self):
        self.assert_set(ready("para"))
        self.assert_set(ready("head", 1), keeps=True)
        self.assert_set(ready("quote"))
        self.assert_set(ready("contents"))

    def test_lead_and_body_are_one_text(self):
        lead = (run("a"), ("tie", 0))
        for kind, number in ((("para",), 0), (("quote",), 0), (("head", 1), 3), (("contents",), 3)):
            found = set_block(style(), ready(*kind, lead=lead, body=words("bb cc")))
            joined = set_block(style(), ready(*kind, body=lead + words("bb cc")))
            self.assertEqual(found, joined)
        # A line does not end between the lead and the body, unless something there lets it.
        self.assert_set(
            ready("para", lead=[run("aaaa"), ("tie", 0)], body=words("bbbb c")),
            line(10, text(0, 0, "aaaa"), text(60, 0, "bbbb")), line(10, text(0, 0, "c")),
            styled=style(fonts=[font(shrink=0)]),
        )

    def test_the_fonts_of_lines_without_any(self):
        label = ("label", "x")
        for kind, height, keeps in (("para", 10, False), ("quote", 10, False), ("contents", 13, False)):
            self.assert_set(ready(kind, body=[label]), line(height, labels=["x"]), keeps=keeps)
        self.assert_set(ready("head", 1, body=[label]), line(13, labels=["x"]), keeps=True)
        self.assert_set(ready("item", body=[label]), line(10, labels=["x"]))
        self.assert_set(ready("para", body=[LINE, run("a")]), line(10), line(10, text(0, 0, "a")))

    def test_ragged_lines_are_rated_by_the_rag_and_the_tolerance(self):
        first = [line(13, text(0, 0, "a", 3), text(20, 0, "b", 3), text(40, 0, "c", 3)), line(13, text(0, 0, "ddddd", 3))]
        other = [line(13, text(0, 0, "a", 3)), line(13, text(0, 0, "b", 3), text(20, 0, "c", 3), text(40, 0, "ddddd", 3))]
        last = line(13, text(0, 0, "eeeee", 3))
        block = ready("head", 1, body=words("a b c ddddd eeeee", 3))
        for rag, tolerance, lines in ((30, 60, other), (80, 60, first), (30, 10000, first)):
            self.assert_set(block, *lines, last, styled=style(rag=rag, tolerance=tolerance), keeps=True)

    def test_lines_of_several_heights(self):
        body = (run("a", 0), run("b", 4), SPACE, run("c", 2))
        self.assert_set(
            ready("para", body=body), line(14, text(0, 4, "a"), text(10, 0, "b", 4), text(30, 2, "c", 2))
        )


class MarksTest(BlocksTest):
    def note(self, letters):
        return (run(letters, 4),)

    def test_notes_in_order(self):
        notes = [self.note("x"), self.note("yy")]
        body = (run("a"), ("note", 1), ("note", 0))
        self.assert_set(
            ready("para", body=body, notes=notes),
            line(10, text(0, 0, "a"), notes=[(14, (text(0, 0, "yy", 4),)), (14, (text(0, 0, "x", 4),))]),
        )

    def test_the_notes_of_each_line(self):
        notes = [self.note("x"), self.note("y")]
        body = (run("aaaaaa"), ("note", 0), SPACE, run("bbbbbb"), ("note", 1))
        self.assert_set(
            ready("para", body=body, notes=notes),
            line(10, text(0, 0, "aaaaaa"), notes=[(14, (text(0, 0, "x", 4),))]),
            line(10, text(0, 0, "bbbbbb"), notes=[(14, (text(0, 0, "y", 4),))]),
        )

    def test_a_number_without_a_note(self):
        body = (run("a"), ("note", 1), ("note", 0), ("note", 7))
        expected = line(10, text(0, 0, "a"), notes=[(14, (text(0, 0, "x", 4),))])
        self.assert_set(ready("para", body=body, notes=[self.note("x")]), expected)
        self.assert_set(ready("para", body=body), line(10, text(0, 0, "a")))

    def test_a_note_without_text(self):
        self.assert_set(
            ready("para", body=[run("a"), ("note", 0)], notes=[()]), line(10, text(0, 0, "a"), notes=[(0, ())])
        )

    def test_a_note_of_several_lines(self):
        note = words("aaa bbb cccc d", 4)
        expected = (
            text(0, 0, "aaa", 4), text(70, 0, "bbb", 4), text(0, 14, "cccc", 4), text(50, 14, "d", 4),
        )
        # Notes are as wide as the page and not indented, whatever the block is.
        for kind, x, height in ((("para",), 20, 10), (("quote",), 20, 10), (("item",), 20, 10), (("head", 1), 0, 10)):
            self.assert_set(
                ready(*kind, body=[run("a"), ("note", 0)], notes=[note]),
                line(height, text(x, 0, "a"), notes=[(28, expected)]),
                styled=style(indent=20), keeps=kind[0] == "head",
            )

    def test_notes_are_justified_as_the_style_says(self):
        note = words("aaa bbb cccc d", 4)
        expected = (text(0, 0, "aaa", 4), text(40, 0, "bbb", 4), text(0, 14, "cccc", 4), text(50, 14, "d", 4))
        self.assert_set(
            ready("para", body=[run("a"), ("note", 0)], notes=[note]),
            line(10, text(0, 0, "a"), notes=[(28, expected)]), styled=style(justify=False),
        )

    def test_the_heights_of_the_lines_of_a_note(self):
        note = (run("a", 0), LINE, LINE, run("b", 1))
        self.assert_set(
            ready("para", body=[("note", 0)], notes=[note]),
            line(10, notes=[(35, (text(0, 0, "a"), text(0, 24, "b", 1)))]),
        )

    def test_labels_in_order(self):
        note = (("label", "c"), run("x", 4), ("label", "d"))
        other = (("label", "e"),)
        body = (("label", "b"), ("note", 1), run("a"), ("note", 0), ("label", "a"))
        found = set_block(style(), ready("para", body=body, notes=[note, other]))
        self.assertEqual([part[3] for part in found[0]], [("b", "a", "e", "c", "d")])

    def test_the_labels_of_each_line(self):
        body = (run("aaaaaa"), ("label", "x"), SPACE, ("label", "y"), run("bbbbbb"), ("note", 0))
        found = set_block(style(), ready("para", body=body, notes=[(("label", "z"),)]))
        self.assertEqual([part[3] for part in found[0]], [("x",), ("y", "z")])

    def test_notes_in_notes_count_nothing(self):
        body = (run("a"), ("note", 0))
        notes = [(run("x", 4), ("note", 0), ("note", 1)), (("label", "y"),)]
        self.assert_set(
            ready("para", body=body, notes=notes), line(10, text(0, 0, "a"), notes=[(14, (text(0, 0, "x", 4),))])
        )

    def test_pages_are_drawn(self):
        body = (("page", 0, 2, "x"), SPACE, ("page", 2, 1, "y"))
        self.assert_set(
            ready("para", body=body),
            line(12, ("page", 0, 2, 0, 2, "x"), ("page", 30, 0, 2, 1, "y")),
        )


class ItemsTest(BlocksTest):
    LEAD = (run("*"), ("tie", 0))

    def test_a_lead_that_is_narrower_than_the_indent(self):
        self.assert_set(
            ready("item", lead=self.LEAD, body=words("aaa bb cccc")),
            line(10, text(0, 0, "*"), text(30, 0, "aaa"), text(80, 0, "bb")), line(10, text(30, 0, "cccc")),
            styled=style(indent=30),
        )

    def test_a_lead_that_is_wider_than_the_indent(self):
        self.assert_set(
            ready("item", lead=self.LEAD, body=words("aaa bb cccc")),
            line(10, text(0, 0, "*"), text(20, 0, "aaa"), text(80, 0, "bb")), line(10, text(20, 0, "cccc")),
            styled=style(indent=15),
        )

    def test_glue_and_hyphens_in_the_lead(self):
        # Glue keeps its width, at the beginning and at the end too; hyphens have none.
        styled = style(patterns=["a1b"], indent=5, justify=False)
        lead = (SPACE, run("aaabbb"), SPACE)
        self.assert_set(
            ready("item", lead=lead, body=[run("c")]),
            line(10, text(10, 0, "aaa"), text(40, 0, "bbb"), text(80, 0, "c")), styled=styled,
        )

    def test_pages_and_labels_in_the_lead(self):
        lead = (("page", 0, 2, "x"), ("label", "y"), run("a"), ("note", 0))
        self.assert_set(
            ready("item", lead=lead, body=[run("b"), ("label", "z"), ("note", 1)], notes=[(("label", "u"),), (run("c", 4),)]),
            line(
                10, ("page", 0, 0, 0, 2, "x"), text(20, 0, "a"), text(30, 0, "b"),
                notes=[(14, ()), (14, (text(0, 0, "c", 4),))], labels=["y", "u", "z"],
            ),
        )

    def test_a_body_without_lines(self):
        self.assert_set(ready("item", lead=self.LEAD), line(10, text(0, 0, "*")), styled=style(indent=50))
        lead = (run("a", 4), ("label", "x"), ("note", 0))
        self.assert_set(
            ready("item", lead=lead, notes=[(run("b", 4),)]),
            line(14, text(0, 0, "a", 4), notes=[(14, (text(0, 0, "b", 4),))], labels=["x"]),
        )
        self.assert_set(ready("item", lead=[("label", "x")]), line(10, labels=["x"]))

    def test_a_lead_without_items(self):
        self.assert_set(
            ready("item", body=words("aaa bb cccc")),
            line(10, text(30, 0, "aaa"), text(80, 0, "bb")), line(10, text(30, 0, "cccc")), styled=style(indent=30),
        )
        self.assert_set(ready("item"))

    def test_everything_stands_at_the_bottom(self):
        self.assert_set(
            ready("item", lead=[run("*", 4), run("*", 1)], body=[run("a"), LINE, run("b", 2)]),
            line(14, text(0, 0, "*", 4), text(10, 3, "*", 1), text(20, 4, "a")), line(12, text(20, 0, "b", 2)),
        )
        self.assert_set(
            ready("item", lead=self.LEAD, body=[run("a", 3), run("b", 1)]),
            line(13, text(0, 3, "*"), text(20, 0, "a", 3), text(30, 2, "b", 1)),
        )
        # A lead of glue alone is as high as the font 0.
        self.assert_set(
            ready("item", lead=[("tie", 4)], body=[run("a", 1)]), line(12, text(10, 1, "a", 1)),
            styled=style(fonts=[font(12), font(11), font(10), font(10), font(20)]),
        )

    def test_a_lead_as_wide_as_the_page(self):
        self.assert_set(
            ready("item", lead=[run("a" * 12)], body=words("b c")),
            line(10, text(0, 0, "a" * 12), text(120, 0, "b")), line(10, text(120, 0, "c")),
        )


class FiguresTest(BlocksTest):
    def test_a_height_of_at_most_two_rules(self):
        for height in (0, 3, 4):
            self.assert_set(
                ready("figure", height), line(height, ("rule", 0, 0, 100, height)), styled=style(rule=2), is_float=True
            )
        self.assert_set(ready("figure", 0), line(0, ("rule", 0, 0, 100, 0)), is_float=True)

    def test_a_greater_height(self):
        for height in (5, 50):
            self.assert_set(
                ready("figure", height),
                line(
                    height, ("rule", 0, 0, 100, 2), ("rule", 0, 2, 2, height - 4), ("rule", 98, 2, 2, height - 4),
                    ("rule", 0, height - 2, 100, 2),
                ),
                styled=style(rule=2), is_float=True,
            )

    def test_a_rule_of_0(self):
        self.assert_set(
            ready("figure", 30),
            line(30, ("rule", 0, 0, 100, 0), ("rule", 0, 0, 0, 30), ("rule", 100, 0, 0, 30), ("rule", 0, 30, 100, 0)),
            is_float=True,
        )

    def test_a_narrow_page(self):
        for width, left in ((4, 4), (9, 9), (10, 10), (11, 10), (20, 10)):
            self.assert_set(
                ready("figure", 30),
                line(30, ("rule", 0, 0, width, 10), ("rule", 0, 10, left, 10), ("rule", 0, 20, width, 10)),
                styled=style(width=width, rule=10), is_float=True,
            )
        self.assert_set(
            ready("figure", 30),
            line(
                30, ("rule", 0, 0, 21, 10), ("rule", 0, 10, 10, 10), ("rule", 11, 10, 10, 10), ("rule", 0, 20, 21, 10)
            ),
            styled=style(width=21, rule=10), is_float=True,
        )

    def test_the_caption(self):
        self.assert_set(
            ready("figure", 2, lead=[run("F", 4), ("tie", 4)], body=words("aaa bbbbb cc", 4)),
            line(2, ("rule", 0, 0, 100, 2)),
            line(17, text(0, 3, "F", 4), text(20, 3, "aaa", 4)),
            line(14, text(0, 0, "bbbbb", 4), text(60, 0, "cc", 4)),
            styled=style(rule=1, cell_gap=3, indent=20), is_float=True,
        )

    def test_labels_and_notes_of_the_caption(self):
        body = (run("aaaaaa"), ("note", 1), ("label", "x"), SPACE, run("bbbbbb"), ("note", 0), ("label", "y"))
        notes = [(("label", "u"), run("p", 4)), words("ccc ddd eeee", 4) + (("label", "v"),)]
        self.assert_set(
            ready("figure", 0, body=body, notes=notes),
            line(0, ("rule", 0, 0, 100, 0)),
            line(14, text(0, 4, "aaaaaa"), labels=["x", "v"]),
            line(10, text(0, 0, "bbbbbb"), labels=["y", "u"]),
            line(14, text(0, 0, "ccc", 4), text(70, 0, "ddd", 4)), line(14, text(0, 0, "eeee", 4)),
            line(14, text(0, 0, "p", 4)),
            styled=style(cell_gap=4), is_float=True,
        )

    def test_a_caption_of_labels(self):
        self.assert_set(
            ready("figure", 0, body=[("label", "x")]), line(0, ("rule", 0, 0, 100, 0)), line(14, labels=["x"]),
            is_float=True,
        )


class ContentsTest(BlocksTest):
    def entry(self, level, *atoms, number=0, figures=1, label="#0"):
        return (level, tuple(atoms), ("page", number, figures, label))

    def page(self, x, y, figures=1, label="#0", number=0):
        return ("page", x, y, number, figures, label)

    def test_levels(self):
        entries = [self.entry(level, run("a"), label=f"#{level}") for level in (1, 2, 3)]
        self.assert_set(
            ready("contents", entries=entries),
            line(10, text(0, 0, "a"), self.page(90, 0, label="#1")),
            line(10, text(15, 0, "a"), self.page(90, 0, label="#2")),
            line(10, text(30, 0, "a"), self.page(90, 0, label="#3")),
            styled=style(indent=15),
        )

    def test_entries_of_several_lines(self):
        # The lines behind the first one are indented more, and they leave room for the page and a space.
        self.assert_set(
            ready("contents", entries=[self.entry(2, *words("aaa bb ccc dd"), figures=2)]),
            line(10, text(15, 0, "aaa")), line(10, text(30, 0, "bb")), line(10, text(30, 0, "ccc")),
            line(10, text(30, 0, "dd"), self.page(80, 0, figures=2)),
            styled=style(indent=15),
        )

    def test_the_room_of_an_entry(self):
        for width, count in ((70, 1), (69, 2)):
            found = set_block(style(width=width), ready("contents", entries=[self.entry(1, *words("aa bb"))]))
            self.assertEqual(len(found[0]), count)
        # The space is that of the font 0, and the figure that of the font of the page.
        fonts = [font(space=3, shrink=0), font(space=50, figure=7)]
        for width, count in ((53, 1), (52, 2)):
            block = ready("contents", entries=[self.entry(1, *words("aa bb"), number=1)])
            self.assertEqual(len(set_block(style(width=width, fonts=fonts), block)[0]), count)

    def test_entries_without_text(self):
        self.assert_set(ready("contents", entries=[self.entry(1)]), line(10, self.page(90, 0)))
        self.assert_set(
            ready("contents", entries=[self.entry(2, number=4, figures=3)]),
            line(14, self.page(70, 0, figures=3, number=4)), styled=style(indent=20),
        )

    def test_a_page_that_is_higher_than_the_line(self):
        self.assert_set(
            ready("contents", entries=[self.entry(1, *words("aaaa bbbb"), number=4)]),
            line(10, text(0, 0, "aaaa")), line(14, text(0, 4, "bbbb"), self.page(90, 0, number=4)),
        )

    def test_a_page_that_is_lower_than_the_line(self):
        self.assert_set(
            ready("contents", entries=[self.entry(1, run("a", 4), run("b"))]),
            line(14, text(0, 0, "a", 4), text(10, 4, "b"), self.page(90, 4)),
        )

    def test_a_page_that_is_wider_than_the_style(self):
        self.assert_set(
            ready("contents", entries=[self.entry(1, run("a"), figures=12)]),
            line(10, text(0, 0, "a"), self.page(0, 0, figures=12)),
        )

    def test_lead_and_body_come_first(self):
        self.assert_set(
            ready("contents", lead=[run("a", 3)], body=words("b c", 3), entries=[self.entry(1, run("d"))]),
            line(13, text(0, 0, "a", 3), text(10, 0, "b", 3), text(30, 0, "c", 3)),
            line(10, text(0, 0, "d"), self.page(90, 0)),
        )

    def test_entries_are_ragged(self):
        found = set_block(style(), ready("contents", entries=[self.entry(1, *words("aaa bb cccc"))]))
        self.assertEqual(found[0][0], line(10, text(0, 0, "aaa"), text(40, 0, "bb")))

    def test_no_entries(self):
        self.assert_set(ready("contents"))


class ManyBlocksTest(unittest.TestCase):
    def test_many_blocks(self):
        numbers = random.Random(48)
        for _ in range(1500):
            styled = block_oracle.some_style(numbers, Font, Style)
            block = block_oracle.some_ready(numbers)
            with self.subTest(block=block):
                self.assertEqual(set_block(styled, block), block_oracle.set_block(styled, block))

    def test_a_block_is_not_changed(self):
        numbers = random.Random(49)
        for _ in range(50):
            styled = block_oracle.some_style(numbers, Font, Style)
            block = block_oracle.some_ready(numbers)
            before = copy.deepcopy(block)
            found = set_block(styled, block)
            self.assertEqual(block, before)
            self.assertEqual(set_block(styled, block), found)

    def test_everything_is_a_tuple(self):
        numbers = random.Random(50)
        for _ in range(50):
            found = set_block(block_oracle.some_style(numbers, Font, Style), block_oracle.some_ready(numbers))
            # Tuples that contain a list have no hash.
            self.assertIsInstance(hash(found), int)


if __name__ == "__main__":
    unittest.main()
