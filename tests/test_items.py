"""Points 32 and 33 and the section folio/items.py of the interface."""

import unittest

from folio.fonts import Font, Style
from folio.items import items_of


def font(**more):
    numbers = {"line": 10, "space": 10, "stretch": 9, "shrink": 5, "figure": 7, "other": 20}
    return Font(**{**numbers, **more})


def style(fonts=None, **more):
    numbers = {"width": 100, "height": 60, "fonts": fonts or [font()], "hyphen_cost": 30}
    return Style(**{**numbers, **more})


def five_fonts():
    return [font(line=number + 1, space=10 + number, figure=number, other=20 + number) for number in range(5)]


def box(letters, width=None, number=0):
    return ("box", 20 * len(letters) if width is None else width, number, tuple(map(ord, letters)))


HYPHEN = ("hyphen", 20, 0, 30)
PENALTY = ("penalty", 30)


class AtomsTest(unittest.TestCase):
    def assert_items(self, atoms, expected, made=None):
        for given in (list(atoms), tuple(atoms)):
            with self.subTest(atoms=given):
                found = items_of(made or style(), given)
                self.assertIs(type(found), list)
                self.assertEqual(found, expected)
                self.assertEqual({type(item) for item in found} - {tuple}, set())

    def test_no_atoms(self):
        self.assert_items([], [])

    def test_runs(self):
        self.assert_items([("run", 0, "ab")], [("box", 40, 0, (97, 98))])
        self.assert_items([("run", 0, "a1")], [("box", 27, 0, (97, 49))])

    def test_spaces_and_ties(self):
        self.assert_items([("space", 0)], [("glue", 10, 9, 5, True)])
        self.assert_items([("tie", 0)], [("glue", 10, 9, 5, False)])

    def test_ends_of_lines(self):
        self.assert_items([("line",), ("line",)], [("forced",), ("forced",)])

    def test_notes_and_labels(self):
        atoms = [("note", 0), ("note", 7), ("label", "a"), ("label", "!a b"), ("label", "#0")]
        self.assert_items(atoms, atoms)

    def test_pages(self):
        self.assert_items([("page", 0, 1, "a")], [("page", 7, 0, 1, "a")])
        self.assert_items([("page", 0, 3, "#2")], [("page", 21, 0, 3, "#2")])
        self.assert_items([("page", 0, 0, "a")], [("page", 0, 0, 0, "a")])

    def test_the_fonts_of_atoms(self):
        made = style(five_fonts())
        for number in range(5):
            atoms = [("run", number, "a1"), ("space", number), ("tie", number), ("page", number, 2, "x")]
            expected = [
                ("box", 20 + 2 * number, number, (97, 49)),
                ("glue", 10 + number, 9, 5, True),
                ("glue", 10 + number, 9, 5, False),
                ("page", 2 * number, number, 2, "x"),
            ]
            self.assert_items(atoms, expected, made)

    def test_font_numbers_beyond_the_fonts(self):
        made = style(five_fonts()[:2], patterns=["b1"])
        for number in (2, 3, 4):
            atoms = [("run", number, "a1"), ("space", number), ("tie", number), ("page", number, 2, "x")]
            expected = [
                ("box", 20, number, (97, 49)),
                ("glue", 10, 9, 5, True),
                ("glue", 10, 9, 5, False),
                ("page", 0, number, 2, "x"),
            ]
            self.assert_items(atoms, expected, made)
        expected = [box("ab", number=4), ("hyphen", 20, 4, 30), box("cde", number=4)]
        self.assert_items([("run", 4, "abcde")], expected, made)

    def test_the_order_of_atoms(self):
        atoms = [
            ("label", "x"), ("run", 0, "ab"), ("space", 0), ("run", 0, "c"), ("note", 0),
            ("line",), ("page", 0, 1, "x"), ("tie", 0), ("run", 0, "d"),
        ]
        expected = [
            ("label", "x"), box("ab"), ("glue", 10, 9, 5, True), box("c"), ("note", 0),
            ("forced",), ("page", 7, 0, 1, "x"), ("glue", 10, 9, 5, False), box("d"),
        ]
        self.assert_items(atoms, expected)

    def test_runs_behind_each_other_are_shaped_for_themselves(self):
        made = style([font(ligatures=[(97, 98, 200)], kerns=[(97, 98, 5)])])
        self.assert_items([("run", 0, "a"), ("run", 0, "b")], [box("a"), box("b")], made)
        self.assert_items([("run", 0, "ab")], [("box", 20, 0, (200,))], made)

    def test_atoms_are_not_changed(self):
        atoms = [("run", 0, "ab-cd"), ("space", 0), ("note", 1)]
        before = list(atoms)
        items_of(style(), atoms).clear()
        self.assertEqual(atoms, before)


class RunsTest(unittest.TestCase):
    def assert_run(self, letters, expected, made=None, number=0):
        with self.subTest(letters=letters, number=number):
            self.assertEqual(items_of(made or style(), [("run", number, letters)]), expected)

    def test_words_are_cut(self):
        made = style(patterns=["b1", "d1"])
        self.assert_run("abcdefg", [box("ab"), HYPHEN, box("cd"), HYPHEN, box("efg")], made)
        self.assert_run("efghij", [box("efghij")], made)

    def test_fonts_in_which_words_are_cut(self):
        made = style(five_fonts(), patterns=["b1"])
        for number in (0, 1, 4):
            wide = 20 + number
            expected = [
                box("ab", 2 * wide, number), ("hyphen", wide, number, 30), box("cde", 3 * wide, number),
            ]
            self.assert_run("abcde", expected, made, number)
        for number in (2, 3):
            self.assert_run("abcde", [box("abcde", 5 * (20 + number), number)], made, number)

    def test_the_width_and_the_cost_of_a_hyphen(self):
        made = style([font(widths=[(45, 6)])], patterns=["b1"], hyphen_cost=70)
        self.assert_run("abcde", [box("ab"), ("hyphen", 6, 0, 70), box("cde")], made)
        self.assert_run("x-y", [box("x-", 26), ("penalty", 70), box("y")], made)
        self.assert_run("x-y", [box("x-", 40), ("penalty", 0), box("y")], style(hyphen_cost=0))

    def test_either_case_of_letters(self):
        made = style(patterns=["B1c", "wX-yzz"])
        for letters in ("abcde", "ABCDE", "aBcDe"):
            self.assert_run(letters, [box(letters[:2]), HYPHEN, box(letters[2:])], made)
        for letters in ("wxyzz", "WXYZZ", "WxYzZ"):
            self.assert_run(letters, [box(letters[:2]), HYPHEN, box(letters[2:])], made)

    def test_exceptions_come_before_patterns(self):
        made = style(patterns=["c1d", "ab-cdef", "abc-def"])
        self.assert_run("abcdef", [box("ab"), HYPHEN, box("cdef")], made)
        self.assert_run("abcdefg", [box("abc"), HYPHEN, box("defg")], made)

    def test_several_words_in_a_run(self):
        made = style(patterns=["b1"])
        expected = [box("(ab"), HYPHEN, box("cde),abc..ab"), HYPHEN, box("xyz!")]
        self.assert_run("(abcde),abc..abxyz!", expected, made)
        self.assert_run("1abcde2", [box("1ab", 47), HYPHEN, box("cde2", 67)], made)

    def test_words_end_at_other_signs(self):
        # The word is "abc", which is too short, and not "abc1de".
        self.assert_run("abc1de", [box("abc1de", 107)], style(patterns=["b1"]))

    def test_a_hyphen_between_two_words(self):
        self.assert_run("ab-cd", [box("ab-"), PENALTY, box("cd")])
        self.assert_run("a-b-c", [box("a-"), PENALTY, box("b-"), PENALTY, box("c")])
        self.assert_run("a-B", [box("a-"), PENALTY, box("B")])

    def test_a_hyphen_between_two_words_in_every_font(self):
        made = style(five_fonts())
        for number in range(5):
            wide = 20 + number
            expected = [box("ab-", 3 * wide, number), PENALTY, box("cd", 2 * wide, number)]
            self.assert_run("ab-cd", expected, made, number)

    def test_hyphens_at_the_ends_of_a_run(self):
        for letters in ("-", "-ab", "ab-", "-a-"):
            self.assert_run(letters, [box(letters)])
        self.assert_run("-a-b-", [box("-a-"), PENALTY, box("b-")])

    def test_doubled_hyphens(self):
        for letters in ("ab--cd", "a---b", "--", "--a--b"):
            self.assert_run(letters, [box(letters)])
        self.assert_run("a--b-c", [box("a--b-"), PENALTY, box("c")])

    def test_hyphens_beside_other_signs(self):
        for letters in ("ab-.cd", "ab.-cd", "(-a", "a-)", "a'-b"):
            self.assert_run(letters, [box(letters)])
        for letters in ("ab-1", "1-ab", "1-2", "a-1-b"):
            self.assert_run(letters, [box(letters, sum(7 if sign in "12" else 20 for sign in letters))])

    def test_hyphens_between_words_that_are_cut(self):
        made = style(patterns=["b1"])
        expected = [box("ab"), HYPHEN, box("cde-"), PENALTY, box("ab"), HYPHEN, box("fgh")]
        self.assert_run("abcde-abfgh", expected, made)
        expected = [box("abcde-", number=2), PENALTY, box("abfgh", number=2)]
        self.assert_run("abcde-abfgh", expected, made, 2)

    def test_each_part_is_a_word_of_its_own(self):
        # "abcde" alone would have an exception; its parts have none.
        self.assert_run("ab-cde", [box("ab-"), PENALTY, box("cde")], style(patterns=["ab-cde"]))

    def test_kerns_and_ligatures_within_a_piece(self):
        made = style([font(ligatures=[(98, 99, 200)], kerns=[(97, 200, 4), (41, 97, 3)], widths=[(200, 25)])])
        self.assert_run("abc", [("box", 41, 0, (97, 200))], made)
        self.assert_run(")abc", [("box", 58, 0, (41, 97, 200))], made)
        self.assert_run("b.c", [box("b.c")], made)

    def test_ligatures_over_several_groups(self):
        made = style([font(ligatures=[(97, 46, 200), (200, 98, 201)])])
        self.assert_run("a.b", [("box", 20, 0, (201,))], made)

    def test_no_kerns_and_ligatures_over_a_cut(self):
        made = style([font(ligatures=[(98, 99, 200), (45, 120, 201)], kerns=[(98, 99, 4), (45, 120, 3)])], patterns=["b1"])
        self.assert_run("abcde", [box("ab"), HYPHEN, box("cde")], made)
        self.assert_run("ab-xy", [box("ab-"), PENALTY, box("xy")], made)
        self.assert_run("abc", [("box", 40, 0, (97, 200))], made)

    def test_a_ligature_with_the_hyphen_before_the_cut(self):
        made = style([font(ligatures=[(98, 45, 200)])])
        self.assert_run("ab-cd", [("box", 40, 0, (97, 200)), PENALTY, box("cd")], made)


if __name__ == "__main__":
    unittest.main()
