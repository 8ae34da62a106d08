"""Points 67 to 71 and the section folio/ready.py of the interface."""

import copy
import unittest

from folio.reading import read
from folio.ready import ready_blocks

SPACE = ("space", 0)


def run(letters, font=0):
    return ("run", font, letters)


def tie(font=0):
    return ("tie", font)


def label(name):
    return ("label", name)


def ready(kind, lead=(), body=(), notes=(), rows=(), entries=()):
    return (kind, tuple(lead), tuple(body), tuple(notes), tuple(rows), tuple(entries))


class ReadyTest(unittest.TestCase):
    def assert_ready(self, texts, *expected, rooms=None):
        """The last blocks are ready so."""
        with self.subTest(texts=texts, rooms=rooms):
            found = ready_blocks([read(text) for text in texts], rooms or {})
            self.assertIs(type(found), list)
            self.assertEqual(len(found), len(texts))
            self.assertEqual(found[-len(expected):], list(expected))
            self.assertIsInstance(hash(tuple(found)), int)

    def body_of(self, texts, rooms=None):
        return ready_blocks([read(text) for text in texts], rooms or {})[-1][2]


class LeadsTest(ReadyTest):
    def test_headings(self):
        self.assert_ready(
            ["# a", "### b", "## c"],
            ready(("head", 1), [run("1", 3), tie(3)], [label("#0"), run("a", 3)]),
            ready(("head", 3), [run("1.0.1", 3), tie(3)], [label("#1"), run("b", 3)]),
            ready(("head", 2), [run("1.1", 3), tie(3)], [label("#2"), run("c", 3)]),
        )

    def test_items(self):
        self.assert_ready(["- a"], ready(("item",), [run("*"), tie()], [run("a")]))

    def test_figures(self):
        self.assert_ready(
            ["! 5 a", "x", "! 60 *b*"],
            ready(("figure", 5), [run("Figure", 4), tie(4), run("1:", 4), tie(4)], [run("a")]),
            ready(("para",), [], [run("x")]),
            ready(("figure", 60), [run("Figure", 4), tie(4), run("2:", 4), tie(4)], [run("b", 1)]),
        )

    def test_tables(self):
        self.assert_ready(
            ["|a|", "|b|\n|-\n|c|"],
            ready(("table", 0), [run("Table", 4), tie(4), run("1", 4)], rows=[((1, (run("a"),)),)]),
            ready(("table", 1), [run("Table", 4), tie(4), run("2", 4)], rows=[((1, (run("b"),)),), ((1, (run("c"),)),)]),
        )

    def test_other_kinds(self):
        self.assert_ready(
            ["a", "> b", "[page]", "[contents]"],
            ready(("para",), [], [run("a")]), ready(("quote",), [], [run("b")]), ready(("page_end",)),
            ready(("contents",)),
        )

    def test_blocks_without_text(self):
        self.assert_ready(
            ["", "##", "-", ">", "! 3"],
            ready(("para",)), ready(("head", 2), [run("0.1", 3), tie(3)], [label("#0")]),
            ready(("item",), [run("*"), tie()]), ready(("quote",)),
            ready(("figure", 3), [run("Figure", 4), tie(4), run("1:", 4), tie(4)]),
        )
        self.assertEqual(ready_blocks([], {}), [])


class PiecesTest(ReadyTest):
    def test_pieces_that_stay_the_same(self):
        self.assert_ready(
            ["a *b* `c`~\\/{=x}{!t u}"],
            ready(
                ("para",), [],
                [run("a"), SPACE, run("b", 1), SPACE, run("c", 2), tie(), ("line",), label("x"), label("!t u")],
            ),
        )

    def test_notes(self):
        self.assert_ready(
            ["x{^y}", "a*{^b}*c{^d *e*}"],
            ready(("para",), [], [run("x"), run("1", 4), ("note", 0)], [(run("1", 4), tie(4), run("y", 4))]),
            ready(
                ("para",), [], [run("a"), run("2", 4), ("note", 0), run("c"), run("3", 4), ("note", 1)],
                [(run("2", 4), tie(4), run("b", 4)), (run("3", 4), tie(4), run("d", 4), ("space", 4), run("e", 1))],
            ),
        )
        self.assert_ready(
            ["{^}"], ready(("para",), [], [run("1", 4), ("note", 0)], [(run("1", 4), tie(4))])
        )

    def test_notes_in_cells(self):
        self.assert_ready(
            ["x{^y}", "|a{^b}||c|\n||d|e{^f}|"],
            ready(
                ("table", 0), [run("Table", 4), tie(4), run("1", 4)], [],
                [(run("2", 4), tie(4), run("b", 4)), (run("3", 4), tie(4), run("f", 4))],
                [
                    ((1, (run("a"), run("2", 4), ("note", 0))), (2, (run("c"),))),
                    ((2, (run("d"),)), (1, (run("e"), run("3", 4), ("note", 1)))),
                ],
            ),
        )

    def test_references_to_numbers(self):
        texts = ["# a{=h}", "! 5 f{=f}", "|t{=t}|", "p{^n{=n}}{=p}"]
        self.assert_ready(
            texts + ["{#h} {#f}*{#t}*{#n}{#p}"],
            ready(("para",), [], [run("1"), SPACE, run("1"), run("1", 1), run("1"), run("1")]),
        )
        self.assertEqual(self.body_of(["# a", "## b", "# c", "### d{=x}", "# {#x}"]), (label("#4"), run("2.0.1", 3)))

    def test_references_in_notes_and_cells(self):
        self.assert_ready(
            ["# a{=h}", "b{^{#h}*{@h}*}"],
            ready(
                ("para",), [], [run("b"), run("1", 4), ("note", 0)],
                [(run("1", 4), tie(4), run("1", 4), ("page", 1, 2, "h"))],
            ),
            rooms={"h": 2},
        )
        self.assert_ready(
            ["# a{=h}", "|{#h}|*{@h}*|"],
            ready(
                ("table", 0), [run("Table", 4), tie(4), run("1", 4)], [], [],
                [((1, (run("1"),)), (1, (("page", 1, 3, "h"),)))],
            ),
            rooms={"h": 3},
        )

    def test_references_to_pages(self):
        texts = ["# a{=x}", "{@x}*{@y}*{=y}"]
        self.assertEqual(self.body_of(texts), (("page", 0, 1, "x"), ("page", 1, 1, "y"), label("y")))
        self.assertEqual(self.body_of(texts, {"x": 3, "z": 4}), (("page", 0, 3, "x"), ("page", 1, 1, "y"), label("y")))
        self.assertEqual(self.body_of(texts, {"x": 3, "y": 2}), (("page", 0, 3, "x"), ("page", 1, 2, "y"), label("y")))

    def test_runs_stay_apart(self):
        self.assertEqual(self.body_of(["# a{=x}", "b{#x}c{^n}"])[:5], (run("b"), run("1"), run("c"), run("1", 4), ("note", 0)))

    def test_labels_of_headings_own(self):
        texts = ["# a{=x}", "b", "## c", "[contents]", "# {^d}"]
        self.assertEqual(self.body_of(texts), (label("#2"), run("1", 4), ("note", 0)))
        self.assertEqual(self.body_of(texts[:1]), (label("#0"), run("a", 3), label("x")))


class EntriesTest(ReadyTest):
    def entry(self, level, number, *atoms, name="#0", figures=1):
        return (level, (run(number), tie(), *atoms), ("page", 0, figures, name))

    def entries_of(self, texts, place, rooms=None):
        return ready_blocks([read(text) for text in texts], rooms or {})[place][5]

    def test_headings_before_and_behind_the_list(self):
        texts = ["# a", "[contents]", "x", "## b", "# c"]
        expected = (
            self.entry(1, "1", run("a")), self.entry(2, "1.1", run("b"), name="#1"), self.entry(1, "2", run("c"), name="#2"),
        )
        self.assertEqual(self.entries_of(texts, 1), expected)
        self.assertEqual(self.entries_of(["[contents]"] + texts, 0), expected)
        self.assertEqual(self.entries_of(["[contents]"] + texts, 2), expected)
        self.assertEqual(self.entries_of(texts, 0), ())
        self.assertEqual(self.entries_of(texts, 2), ())

    def test_no_headings(self):
        self.assertEqual(self.entries_of(["[contents]", "a"], 0), ())

    def test_fonts(self):
        self.assertEqual(
            self.entries_of(["[contents]", "# a *b* `c`~d"], 0),
            (
                self.entry(
                    1, "1", run("a"), SPACE, run("b", 1), SPACE, run("c", 2), tie(), run("d"),
                ),
            ),
        )

    def test_spaces_and_ties_of_other_fonts(self):
        self.assertEqual(
            self.entries_of(["[contents]", "# a* ~*b` `c"], 0),
            (self.entry(1, "1", run("a"), ("space", 1), tie(1), run("b"), ("space", 2), run("c")),),
        )

    def test_labels_notes_and_ends_of_lines(self):
        self.assertEqual(
            self.entries_of(["[contents]", "# {!t}a{=x}{^b{=y}} {^c}\\/d*{^e}\\/*"], 0),
            (self.entry(1, "1", run("a"), SPACE, SPACE, run("d"), SPACE),),
        )
        self.assertEqual(self.entries_of(["[contents]", "# {=x}{^b}"], 0), (self.entry(1, "1"),))
        self.assertEqual(self.entries_of(["[contents]", "###"], 0), (self.entry(3, "0.0.1"),))

    def test_references(self):
        texts = ["[contents]", "# a{=x}", "## {#x}*{#y}{@y}*{@x}", "! 1 f{=y}"]
        self.assertEqual(
            self.entries_of(texts, 0, {"x": 2, "#1": 3}),
            (
                self.entry(1, "1", run("a")),
                self.entry(
                    2, "1.1", run("1"), run("1", 1), ("page", 1, 1, "y"), ("page", 0, 2, "x"), name="#1", figures=3
                ),
            ),
        )

    def test_rooms(self):
        texts = ["[contents]", "# a", "# b", "# c"]
        found = self.entries_of(texts, 0, {"#0": 2, "#2": 4})
        self.assertEqual([entry[2] for entry in found], [("page", 0, 2, "#0"), ("page", 0, 1, "#1"), ("page", 0, 4, "#2")])

    def test_numbers_of_notes_are_left_out_but_other_runs_of_the_font_stay(self):
        # The number of a note would be the same run as the letters behind it, but for the font.
        self.assertEqual(
            self.entries_of(["[contents]", "# a{^b}1"], 0), (self.entry(1, "1", run("a"), run("1")),)
        )


class ArgumentsTest(ReadyTest):
    def test_arguments_are_not_changed(self):
        blocks = [read(text) for text in ("# a{=x}", "[contents]", "b{^{@x}}{#x}", "|a|{@x}|")]
        rooms = {"x": 2}
        before = copy.deepcopy(blocks)
        found = ready_blocks(blocks, rooms)
        self.assertEqual((blocks, rooms), (before, {"x": 2}))
        again = list(found)
        found.clear()
        self.assertEqual(ready_blocks(blocks, rooms), again)


if __name__ == "__main__":
    unittest.main()
