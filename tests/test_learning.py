"""Points 30 and 31 and the section folio/learning.py of the interface."""

import random
import unittest

from folio.errors import BadExample, FolioError
from folio.hyphens import check_entries, levels, places
from folio.learning import learn


def split(example):
    """The word of an example, and its places."""
    parts = example.split("-")
    lengths = [sum(map(len, parts[:count])) for count in range(1, len(parts))]
    return "".join(parts), lengths


def are_right(entries, examples):
    return all(places(entries, split(example)[0]) == split(example)[1] for example in examples)


def seen_in_pass(entries, examples, level, length):
    """All candidates of a pass, and whether the level is right, once for each open place."""
    seen = []
    for example in examples:
        word, marks = split(example)
        dotted = "." + word + "."
        given = levels(entries, word)
        for place in range(2, len(word) - 2):
            if given[place - 1] % 2 != level % 2:
                good = (place in marks) == (level % 2 == 1)
                for before in range(length + 1):
                    start = place + 1 - before
                    if start >= 0 and start + length <= len(dotted):
                        seen.append(((dotted[start:start + length], before), good))
    return seen


def patterns_by_listing(examples):
    entries = []
    for level in (1, 2, 3, 4):
        for length in (1, 2, 3):
            seen = seen_in_pass(entries, examples, level, length)
            taken = []
            for candidate, _ in seen:
                right = sum(good for other, good in seen if other == candidate)
                wrong = sum(not good for other, good in seen if other == candidate)
                if level * wrong < right and candidate not in taken:
                    taken.append(candidate)
            entries = entries + [run[:before] + str(level) + run[before:] for run, before in taken]
    return entries


def learn_by_listing(examples):
    entries = patterns_by_listing(examples)
    entries = entries + [example for example in examples if not are_right(entries, [example])]
    before = None
    while before != entries:
        before = entries
        for entry in before:
            without = [other for other in entries if other != entry]
            if are_right(without, examples):
                entries = without
    plain = [example for example in examples if "-" in example]
    return plain if len(entries) > len(plain) else entries


def some_examples(numbers):
    """Examples with words of few letters, of which parts often occur several times."""
    letters = "abcd"[:numbers.randint(2, 4)]
    rules = ["".join(numbers.choice(letters) for _ in range(numbers.randint(1, 3))) for _ in range(4)]
    patterns = ["".join((rule[:1], str(numbers.randint(1, 4)), rule[1:])) for rule in rules]
    examples = {}
    for _ in range(numbers.randint(1, 12)):
        word = "".join(numbers.choice(letters) for _ in range(numbers.randint(1, 12)))
        cuts = [place for place in places(patterns, word) if numbers.random() < 0.9]
        example = "".join("-" * (index in cuts) + letter for index, letter in enumerate(word))
        examples[word] = example
    return list(examples.values())


class ExamplesTest(unittest.TestCase):
    def assert_bad(self, examples, at, what):
        with self.subTest(examples=examples):
            with self.assertRaises(BadExample) as caught:
                learn(examples)
            self.assertEqual((caught.exception.at, caught.exception.what), (at, what))

    def assert_invalid(self, text):
        self.assert_bad([text], 0, "invalid")
        self.assert_bad(["ta-ble", text, "", "-"], 1, "invalid")

    def test_valid_examples(self):
        texts = ("a", "ab", "abcd", "table", "ta-ble", "ta-b-les", "ab-cde", "abc-de-fgh", "x" * 24, "a" * 20 + "-aaa")
        for text in texts + ("ab-" * 7 + "abc",):
            with self.subTest(text=text):
                self.assertTrue(are_right(learn([text]), [text]))

    def test_hyphens_at_the_ends(self):
        for text in ("-table", "table-", "-ta-ble", "ta-ble-", "-a", "a-"):
            self.assert_invalid(text)

    def test_outer_hyphens(self):
        for text in ("t-able", "tabl-e", "tab-le", "t-ables", "tabl-es", "a-b", "ab-cd", "a-bc", "ta-bl-e"):
            self.assert_invalid(text)

    def test_doubled_hyphens(self):
        for text in ("ta--ble", "ta---ble", "ta-bl--es", "--table", "table--"):
            self.assert_invalid(text)

    def test_capital_letters(self):
        for text in ("Ta-ble", "TABLE", "ta-blE", "tA-ble"):
            self.assert_invalid(text)

    def test_other_signs(self):
        for sign in " .,1079_~!'{}[]`@\n":
            for text in (sign, "ta-ble" + sign, sign + "ta-ble", "ta-b" + sign + "le", "ta" + sign + "ble"):
                self.assert_invalid(text)

    def test_no_letters(self):
        for text in ("", "-", "--", "-----"):
            self.assert_invalid(text)

    def test_lengths(self):
        for text in ("x" * 25, "ab-" * 7 + "abcd", "a" * 21 + "-aaa"):
            self.assertEqual(len(text), 25)
            self.assert_invalid(text)
        self.assert_invalid("x" * 100)

    def test_duplicates(self):
        self.assert_bad(["table", "table"], 1, "duplicate")
        self.assert_bad(["ta-ble", "table"], 1, "duplicate")
        self.assert_bad(["tables", "cables", "ta-bles", "ca-bles"], 2, "duplicate")
        self.assert_bad(["tables", "cables", "ca-bles", "ta-bles"], 2, "duplicate")
        self.assert_bad(["ta-bles", "cables", "gables", "tables", "tab-les"], 3, "duplicate")

    def test_an_invalid_example_comes_before_a_duplicate_one(self):
        self.assert_bad(["table", "table", "Table"], 2, "invalid")
        self.assert_bad(["table", "ta-ble", "a", "a", "", "?"], 4, "invalid")
        self.assert_bad(["-", "table", "table"], 0, "invalid")

    def test_the_error_is_one_of_the_program(self):
        with self.assertRaises(FolioError):
            learn([""])

    def test_the_list_stays(self):
        for examples in (["ta-ble", "ca-ble"], ["ta-ble", "table"], ["ta-ble", "", "?"], ["ta-ble", "tables"]):
            before = list(examples)
            try:
                learn(examples).append("x")
            except BadExample:
                pass
            self.assertEqual(examples, before)
        self.assertEqual(learn(["ta-ble", "tables"]), ["ta-ble"])


class LearningTest(unittest.TestCase):
    def assert_learned(self, examples, expected):
        with self.subTest(examples=examples):
            self.assertEqual(learn(examples), expected)
            self.assertEqual(learn_by_listing(examples), expected)

    def test_the_examples(self):
        self.assert_learned(["ta-ble", "ca-ble"], ["a1"])
        self.assert_learned(["ta-ble", "tables"], ["ta-ble"])

    def test_no_hyphens(self):
        self.assert_learned(["table"], [])
        self.assert_learned(["a", "ab", "abc", "abcdefghi"], [])

    def test_lengths_of_runs(self):
        # One character is enough; two are needed; three are needed, a dot among them.
        self.assert_learned(["ba-cab"], ["a1"])
        self.assert_learned(["ab-bbab"], ["ab1"])
        self.assert_learned(["bb-bbbb"], [".bb1"])
        # Four characters would be needed.
        self.assert_learned(["aaa-aaaa"], ["aaa-aaaa"])

    def test_a_candidate_that_is_right_as_often_as_wrong_is_not_taken(self):
        # "b1" would be right at one place and wrong at another one.
        self.assert_learned(["ab-bbab"], ["ab1"])
        self.assert_learned(["ta-ble", "tables"], ["ta-ble"])

    def test_wrong_places_weigh_more_at_higher_levels(self):
        # A pattern of level 2 would be right twice and wrong once, which is not enough.
        self.assert_learned(["abbb-baa", "ab-b-b-aaa"], ["b1", "abbb-baa"])
        self.assert_learned(["abb-ab-aaa"], ["1a"])

    def test_higher_levels(self):
        self.assert_learned(["ab-c-aaacb", "bab-ac-ccb", "bc-abbba", "cc-a-caa"], ["1a", "c1", "a2", "3ca"])
        examples = ["aab-ab-ab-b-a-aab-aab", "ab-b-a-abaa", "ab-b-b-b-b-a-aabb", "aaaaab-b-b-a-ab-b-abaa", "ab-bba"]
        self.assert_learned(examples, ["b1", "bba3", "a4b"])

    def test_places_of_all_examples_count(self):
        # Each "a" of the words counts for itself: the hyphen behind it is right three times.
        self.assert_learned(["ba-da-ca-bbb", "xyazz"], ["a1"])
        self.assert_learned(["xyazz", "ba-da-ca-bbb"], ["a1"])

    def test_exceptions(self):
        self.assert_learned(["aa-aa-aaba"], ["aa-aa-aaba"])
        self.assert_learned(["bab-aba", "bababb-abb"], ["1a", "bababb-abb"])

    def test_an_exception_without_hyphens(self):
        self.assert_learned(["baccbbb", "a", "ccbcccca-cac", "ba-ccbb"], ["a1", "baccbbb"])

    def test_an_exception_that_is_left_out(self):
        # "aab-aba" becomes an exception; without a pattern that is left out it is not needed.
        examples = [
            "abbbab", "bbba-bbbabab", "aab-aab", "b", "ba-aba-bb-aa-aab", "bbab", "aab-aba", "aa-a-bb-a-abaa", "aaba",
            "bbba-abab", "aabb", "aa-a-abb",
        ]
        self.assertNotEqual(places(patterns_by_listing(examples), "aababa"), [3])
        self.assert_learned(examples, ["1a", "a1", "2ba", "bbb2", "ba-aba-bb-aa-aab"])

    def test_entries_are_left_out_in_order(self):
        # Both "1c" and "a1" are taken, and either could be left out.
        self.assert_learned(["ba-cab"], ["a1"])

    def test_too_many_entries(self):
        # "d1" and "a1" are right, but there is one example with hyphens only.
        self.assert_learned(["dd-a-dda"], ["dd-a-dda"])
        self.assert_learned(["dd-a-dda", "aabbccdd"], ["dd-a-dda"])

    def test_as_many_entries_as_examples(self):
        learned = learn(["ab-c-aaacb", "bab-ac-ccb", "bc-abbba", "cc-a-caa"])
        self.assertEqual(len(learned), 4)

    def test_many_lists_of_examples(self):
        numbers = random.Random(5)
        for _ in range(250):
            examples = some_examples(numbers)
            learned = learn(examples)
            with self.subTest(examples=examples):
                self.assertEqual(learned, learn_by_listing(examples))
                self.assertIsNone(check_entries(learned))
                self.assertTrue(are_right(learned, examples))
                self.assertLessEqual(len(learned), sum("-" in example for example in examples))
                for at in range(len(learned)):
                    self.assertFalse(are_right(learned[:at] + learned[at + 1:], examples))

    def test_twelve_long_examples(self):
        numbers = random.Random(6)
        for letters in ("ab", "abcdefghijklmnopqrstuvwxyz"):
            examples = ["".join(numbers.choice(letters) for _ in range(20)) for _ in range(12)]
            examples = [word[:4] + "-" + word[4:8] + "-" + word[8:12] + "-" + word[12:] for word in examples]
            learned = learn(examples)
            self.assertTrue(are_right(learned, examples))
            self.assertLessEqual(len(learned), 12)


if __name__ == "__main__":
    unittest.main()
