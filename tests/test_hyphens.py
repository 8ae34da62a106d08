"""Points 26 to 29 and the section folio/hyphens.py of the interface."""

import itertools
import unittest

from folio.errors import BadEntry, FolioError
from folio.hyphens import check_entries, levels, places


def levels_by_listing(patterns, word):
    """The levels of a word, looked for place by place."""
    dotted = "." + word.lower() + "."
    found = []
    for place in range(1, len(word)):
        best = 0
        for pattern in patterns:
            plain = "".join(sign for sign in pattern if not sign.isdigit()).lower()
            for cut in range(len(plain) + 1):
                start = place + 1 - cut
                if start >= 0 and dotted[start:start + len(plain)] == plain:
                    best = max(best, level_at(pattern, cut))
        found.append(best)
    return found


def level_at(pattern, cut):
    """The level of a pattern behind so many letters and dots."""
    level = 0
    seen = 0
    for sign in pattern:
        if not sign.isdigit():
            seen += 1
        elif seen == cut:
            level = int(sign)
    return level


class EntriesTest(unittest.TestCase):
    def assert_good(self, entry):
        with self.subTest(entry=entry):
            self.assertIsNone(check_entries([entry]))

    def assert_bad(self, entry):
        with self.subTest(entry=entry):
            with self.assertRaises(BadEntry) as caught:
                check_entries([entry])
            self.assertEqual(caught.exception.at, 0)

    def test_no_entries(self):
        self.assertIsNone(check_entries([]))
        self.assertIsNone(check_entries(()))

    def test_good_exceptions(self):
        for entry in ("a", "Z", "ta-ble", "Ta-BLE", "table", "a-b-c", "x" * 24, "a-" * 11 + "ab"):
            self.assert_good(entry)

    def test_good_patterns(self):
        patterns = (
            "a1", "1a", "a1b", "A1B", ".a", "a.", ".a.", ".ab1c2d.", "1.a", ".1a", "a.1", "a1.",
            "1.1a1.1", "a123b", "12a", "a12", "a0", "0a", "9z", "x" * 23 + "1", "." + "x" * 23, "1" * 23 + "x",
        )
        for entry in patterns:
            self.assert_good(entry)

    def test_the_empty_text(self):
        self.assert_bad("")

    def test_lengths(self):
        for letters in ("x" * 25, "1" * 24 + "x", "." + "x" * 24, "ab-" * 8 + "c"):
            self.assertEqual(len(letters), 25)
            self.assert_bad(letters)
            self.assert_good(letters[1:])
        self.assert_bad("x" * 600)

    def test_hyphens_at_the_ends_and_doubled(self):
        for entry in ("-", "--", "-a", "a-", "-ab-cd", "ab-cd-", "a--b", "a---b"):
            self.assert_bad(entry)

    def test_dots_inside(self):
        for entry in ("a.b", "..a", "a..", ".a.b", "a.b.", "a1.b", ".1.a", "a.1.", "1.2.a", ". a"):
            self.assert_bad(entry)

    def test_no_letter(self):
        for entry in ("1", "123", ".", "..", ".1.", "1.", ".1", "1.2.3"):
            self.assert_bad(entry)

    def test_neither_digit_nor_dot(self):
        # Letters alone are an exception, which needs no hyphen.
        self.assert_good("ab")
        self.assertEqual(levels(["ab"], "ab"), [0])

    def test_hyphens_beside_digits_and_dots(self):
        for entry in ("a-1b", "a1-b", "ta-ble1", ".ta-ble", "ta-ble."):
            self.assert_bad(entry)

    def test_other_signs(self):
        for sign in " !#$&'*+,/:;=?@[]^_`{|}~\\\"()<>\n":
            for entry in (sign, "a" + sign, sign + "a", "a1" + sign + "b", "ta" + sign + "ble", "ta-b" + sign):
                self.assert_bad(entry)

    def test_the_letters_beside_the_alphabet(self):
        for number in range(32, 127):
            letter = chr(number)
            if letter == "%":
                continue
            if "a" <= letter <= "z" or "A" <= letter <= "Z":
                self.assert_good("1" + letter)
                self.assert_good(letter)
            else:
                self.assert_bad("1" + letter)
                self.assert_bad(letter)

    def test_the_first_bad_entry_counts(self):
        for at in range(6):
            entries = ["a1b", "ta-ble", ".c", "d", "2ef", "gh."]
            entries[at] = "a.b"
            with self.assertRaises(BadEntry) as caught:
                check_entries(entries + ["", "--", "x" * 25])
            self.assertEqual(caught.exception.at, at)

    def test_tuples_of_entries(self):
        self.assertIsNone(check_entries(("a1b", "ta-ble")))
        with self.assertRaises(BadEntry) as caught:
            check_entries(("a1b", "ta-ble", "a b"))
        self.assertEqual(caught.exception.at, 2)

    def test_base_classes(self):
        with self.assertRaises(FolioError):
            check_entries(["1"])
        with self.assertRaises(ValueError):
            check_entries(["1"])

    def test_entries_are_not_changed(self):
        entries = ["A1B", "Ta-Ble", "-"]
        with self.assertRaises(BadEntry):
            check_entries(entries)
        self.assertEqual(entries, ["A1B", "Ta-Ble", "-"])


class LevelsTest(unittest.TestCase):
    def test_the_example(self):
        self.assertEqual(levels(["a1b", "b1c", "c2a", "2ca"], "cabcab"), [2, 1, 2, 2, 1])

    def test_short_words(self):
        self.assertEqual(levels(["1a", "a1"], ""), [])
        self.assertEqual(levels(["1a", "a1", "1.", ".1"], "a"), [])
        self.assertEqual(levels(["1a", "a2"], "aa"), [2])

    def test_no_entries(self):
        self.assertEqual(levels([], "table"), [0, 0, 0, 0])
        self.assertEqual(levels((), "table"), [0, 0, 0, 0])

    def test_patterns_that_do_not_fit(self):
        self.assertEqual(levels(["a1c", "1x", "tables1", ".a1", "l1."], "table"), [0, 0, 0, 0])

    def test_dots_at_the_beginning(self):
        self.assertEqual(levels([".a1b"], "abab"), [1, 0, 0])
        self.assertEqual(levels([".a3"], "abab"), [3, 0, 0])
        self.assertEqual(levels([".b3"], "abab"), [0, 0, 0])

    def test_dots_at_the_end(self):
        self.assertEqual(levels(["a1b."], "abab"), [0, 0, 1])
        self.assertEqual(levels(["5b."], "abab"), [0, 0, 5])
        self.assertEqual(levels(["5a."], "abab"), [0, 0, 0])

    def test_dots_at_both_ends(self):
        self.assertEqual(levels([".a1b2c."], "abc"), [1, 2])
        self.assertEqual(levels([".a1b2c."], "abca"), [0, 0, 0])
        self.assertEqual(levels([".a1b2c."], "cabc"), [0, 0, 0])

    def test_levels_at_the_ends_and_at_the_dots_have_no_effect(self):
        self.assertEqual(levels(["9.9a"], "aaa"), [0, 0])
        self.assertEqual(levels(["a9.9"], "aaa"), [0, 0])
        self.assertEqual(levels(["9aaa9"], "aaa"), [0, 0])
        self.assertEqual(levels(["9.a1"], "aaa"), [1, 0])
        self.assertEqual(levels(["1a.9"], "aaa"), [0, 1])

    def test_a_letter_with_levels_before_and_behind(self):
        self.assertEqual(levels(["1a2"], "bab"), [1, 2])
        self.assertEqual(levels(["b1"], "bab"), [1, 0])
        self.assertEqual(levels(["1b"], "bab"), [0, 1])

    def test_several_digits_in_a_row(self):
        self.assertEqual(levels(["a93b"], "ab"), [3])
        self.assertEqual(levels(["a39"], "ab"), [9])
        self.assertEqual(levels(["45b"], "ab"), [5])
        self.assertEqual(levels(["a10b"], "ab"), [0])

    def test_overlapping_fits(self):
        self.assertEqual(levels(["a1a2a3"], "aaaaa"), [1, 2, 3, 3])
        self.assertEqual(levels(["a3a2a1"], "aaaaa"), [3, 3, 3, 2])
        self.assertEqual(levels(["ab1a"], "ababab"), [0, 1, 0, 1, 0])

    def test_the_greatest_level_counts(self):
        for order in itertools.permutations(["a1b", "a3b", "a2b", "ab", "a0b"]):
            self.assertEqual(levels(list(order), "ab"), [3])
        self.assertEqual(levels(["a9b", "a8b"], "abab"), [9, 0, 9])

    def test_upper_and_lower_case(self):
        self.assertEqual(levels(["a1B", ".T2a"], "TaBLe"), [2, 1, 0, 0])
        self.assertEqual(levels(["A1b", ".t2A"], "tAbLE"), [2, 1, 0, 0])

    def test_exceptions_have_no_effect(self):
        entries = ["ta-ble", "table", "TA-BLE", "b1l", "a", "t-a"]
        self.assertEqual(levels(entries, "table"), [0, 0, 1, 0])

    def test_all_short_patterns(self):
        words = ["".join(letters) for letters in itertools.product("ab", repeat=4)]
        shapes = (
            "{0}1", "2{0}", "1{0}2", "{0}1{1}", "3{0}{1}", "{0}{1}3", "{0}21{1}4",
            ".{0}1", "1{0}.", "{0}1.", ".2{0}{1}", ".{0}{1}1{0}", "{0}{1}1{1}.", "5{1}{0}1{1}5",
        )
        patterns = [shape.format(*pair) for shape in shapes for pair in itertools.product("aB", "ab")]
        for pattern in patterns:
            for word in words:
                with self.subTest(pattern=pattern, word=word):
                    self.assertEqual(levels([pattern], word), levels_by_listing([pattern], word))
        for first in range(0, len(patterns), 5):
            several = patterns[first:] + patterns[:first:3]
            for word in words:
                self.assertEqual(levels(several, word), levels_by_listing(several, word))

    def test_nothing_is_shared_or_changed(self):
        entries = ["A1b", "ta-ble"]
        found = levels(entries, "Table")
        found[0] = 7
        self.assertEqual(entries, ["A1b", "ta-ble"])
        self.assertEqual(levels(entries, "Table"), [0, 1, 0, 0])


class PlacesTest(unittest.TestCase):
    def test_the_example(self):
        self.assertEqual(places(["a1b", "b1c", "c2a", "2ca"], "cabcab"), [2])

    def test_inner_places_of_patterns(self):
        self.assertEqual(places(["a1"], "a" * 8), [2, 3, 4, 5])
        self.assertEqual(places(["a1"], "a" * 6), [2, 3])
        self.assertEqual(places(["a1"], "a" * 5), [2])

    def test_inner_places_of_exceptions(self):
        self.assertEqual(places(["a-b-c-d-e-f-g-h"], "abcdefgh"), [2, 3, 4, 5])
        self.assertEqual(places(["a-b-c-d-e"], "abcde"), [2])
        self.assertEqual(places(["a-bcdef-gh"], "abcdefgh"), [])

    def test_words_that_are_too_short(self):
        for length in range(5):
            word = "abcd"[:length]
            with self.subTest(word=word):
                self.assertEqual(places(["1a", "1b", "1c", "1d"], word), [])
                self.assertEqual(places(["a-b-c-d", "a-b-c", "a-b"], word), [])

    def test_no_entries(self):
        self.assertEqual(places([], "tables"), [])
        self.assertEqual(places((), "tables"), [])

    def test_odd_and_even_levels(self):
        for level in range(10):
            with self.subTest(level=level):
                expected = [3] if level in (1, 3, 5, 7, 9) else []
                self.assertEqual(places([f"c{level}d"], "abcdefg"), expected)

    def test_the_greatest_level_decides(self):
        self.assertEqual(places(["c1d", "c2d"], "abcdefg"), [])
        self.assertEqual(places(["c2d", "c3d"], "abcdefg"), [3])
        self.assertEqual(places(["c3d", "c2d"], "abcdefg"), [3])

    def test_an_exception_counts_instead_of_patterns(self):
        self.assertEqual(places(["b1c", "c1d", "abc-defg"], "abcdefg"), [3])
        self.assertEqual(places(["abc-defg", "b1c", "c2d"], "abcdefg"), [3])
        self.assertEqual(places(["b1c", "abc-defg"], "abcdefh"), [2])

    def test_the_first_exception_counts(self):
        entries = ["1b", "ab-cdefg", "abc-defg", "abcdefg"]
        self.assertEqual(places(entries, "abcdefg"), [2])
        self.assertEqual(places(entries[:1] + entries[2:], "abcdefg"), [3])
        self.assertEqual(places(entries[::-1], "abcdefg"), [])

    def test_an_exception_without_hyphens(self):
        self.assertEqual(places(["c1d"], "abcdefg"), [3])
        self.assertEqual(places(["c1d", "abcdefg"], "abcdefg"), [])

    def test_an_exception_without_inner_hyphens(self):
        self.assertEqual(places(["c1d", "a-bcde-fg", "abc-defg"], "abcdefg"), [])

    def test_exceptions_for_other_words(self):
        self.assertEqual(places(["abc-def", "abc-defgh", "c1d"], "abcdefg"), [3])

    def test_upper_and_lower_case(self):
        self.assertEqual(places(["ABc-DEfg"], "aBCdEFG"), [3])
        self.assertEqual(places(["abc-defg", "b1c"], "ABCDEFG"), [3])
        self.assertEqual(places(["B1c"], "abCDefg"), [2])

    def test_places_ascend(self):
        self.assertEqual(places(["f1g", "d1e", "b1c", "c1d"], "abcdefghij"), [2, 3, 4, 6])

    def test_nothing_is_shared_or_changed(self):
        entries = ["A1b", "ta-Bles"]
        found = places(entries, "Tables")
        found.append(9)
        self.assertEqual(entries, ["A1b", "ta-Bles"])
        self.assertEqual(places(entries, "Tables"), [2])


if __name__ == "__main__":
    unittest.main()
