"""Points 64 to 66 and the section folio/counting.py of the interface."""

import copy
import itertools
import random
import unittest

from folio.counting import label_fault, label_numbers
from folio.reading import read


def blocks_of(*texts):
    return [read(text) for text in texts]


class NumbersTest(unittest.TestCase):
    def assert_numbers(self, texts, **numbers):
        with self.subTest(texts=texts):
            found = label_numbers(blocks_of(*texts))
            self.assertIs(type(found), dict)
            self.assertEqual(found, numbers)

    def assert_heads(self, levels, *numbers):
        """The headings of these levels have these numbers, in their own labels and behind them."""
        texts = []
        for index, level in enumerate(levels):
            texts += ["#" * level + f" x{{=h{index}}}", f"y{{=p{index}}}"]
        expected = {}
        for index, number in enumerate(numbers):
            expected.update({f"h{index}": number, f"p{index}": number})
        self.assert_numbers(texts, **expected)

    def test_headings_in_order(self):
        self.assert_heads([1, 2, 3, 3, 2, 3, 1, 2, 3], "1", "1.1", "1.1.1", "1.1.2", "1.2", "1.2.1", "2", "2.1", "2.1.1")

    def test_headings_without_those_above_them(self):
        self.assert_heads([2, 2, 3], "0.1", "0.2", "0.2.1")
        self.assert_heads([3, 3, 2, 3], "0.0.1", "0.0.2", "0.1", "0.1.1")
        self.assert_heads([3, 1, 3, 3], "0.0.1", "1", "1.0.1", "1.0.2")
        self.assert_heads([1, 1, 3], "1", "2", "2.0.1")
        self.assert_heads([2, 1, 2], "0.1", "1", "1.1")

    def test_counts_begin_again_behind_higher_headings(self):
        self.assert_heads([1, 2, 3, 1, 3, 2, 3], "1", "1.1", "1.1.1", "2", "2.0.1", "2.1", "2.1.1")

    def test_many_headings(self):
        for levels in itertools.product((1, 2, 3), repeat=5):
            self.assert_heads(levels, *self.expected(levels))

    def expected(self, levels):
        """The numbers of headings, as point 64 counts them."""
        numbers = []
        for index, level in enumerate(levels):
            before = levels[:index + 1]
            ones = before.count(1)
            since_one = before[len(before) - before[::-1].index(1):] if 1 in before else before
            twos = since_one.count(2)
            high = [place for place, other in enumerate(before) if other < 3]
            threes = before[high[-1] + 1:].count(3) if high else before.count(3)
            numbers.append(".".join(map(str, (ones, twos, threes)[:level])))
        return numbers

    def test_more_than_nine(self):
        texts = ["# a"] * 12 + ["## b"] * 11 + ["x{=l}"]
        self.assert_numbers(texts, l="12.11")

    def test_figures(self):
        self.assert_numbers(
            ["! 1 a{=a}", "# x", "! 2 b{=b}{=c}", "|t|", "! 3", "! 4 {=d}"], a="1", b="2", c="2", d="4"
        )

    def test_tables(self):
        self.assert_numbers(
            ["|a{=a}|", "# x", "! 5 f", "|b|{=b}c|\n|-\n|d|e{=c}|", "|f|", "|{=d}|"], a="1", b="2", c="2", d="4"
        )

    def test_notes(self):
        self.assert_numbers(
            ["a{^b{=a}}{^c{=b}}", "# x{^y{=c}{=d}}", "! 1 f{^g}", "|a{^b{=e}}|c|\n|d|e{^{=f}}|", "- l{^m{=g}}"],
            a="1", b="2", c="3", d="3", e="5", f="6", g="7",
        )

    def test_each_row_of_the_table(self):
        # In a note of any block the number is that of the note.
        for text, notes in (("a", 0), ("# a", 0), ("- a", 0), ("> a", 0), ("! 1 a", 0)):
            self.assert_numbers(["# t", "p{^q}", text + "{^{=x}}"], x="2")
        self.assert_numbers(["# t", "p{^q}", "|a|b{^{=x}}|"], x="2")
        self.assert_numbers(["# t", "## u{=x}"], x="1.1")
        self.assert_numbers(["# t", "! 1 a", "! 1 b{=x}"], x="2")
        self.assert_numbers(["# t", "|a|", "|b|c{=x}|"], x="2")
        # Elsewhere it is that of the last heading before the block.
        for sign in ("", "- ", "> "):
            self.assert_numbers(["# t", "## u", "! 1 a", "|t|", sign + "a{=x}"], x="1.1")
            self.assert_numbers([sign + "a{=x}", "# t"], x="")

    def test_several_labels_at_one_place(self):
        self.assert_numbers(["# a{=x}{=y}{^b{=z}}{=u}"], x="1", y="1", z="1", u="1")

    def test_index_terms_are_left_out(self):
        self.assert_numbers(["# a{!t}{=x}", "|{!t}|", "b{!t}{^{!u}}"], x="1")

    def test_labels_of_headings_own_are_left_out(self):
        self.assert_numbers(["# a", "## b"])
        self.assert_numbers([])

    def test_a_label_that_is_given_twice(self):
        self.assert_numbers(["# a{=x}", "# b{=x}"], x="1")
        self.assert_numbers(["a{=x}", "# b{=x}"], x="")
        self.assert_numbers(["# a", "! 1 b{=x}{=x}{^c}", "|d{=x}|"], x="1")
        # In a block its body and its cells come before its notes.
        self.assert_numbers(["# a{^b}", "c{^{=x}}{=x}"], x="1")
        self.assert_numbers(["|a{^b}|c{^{=x}}|\n|d|e{=x}|"], x="1")
        self.assert_numbers(["a{^b}{^{=x}}{^{=x}}"], x="2")

    def test_the_blocks_are_not_changed(self):
        blocks = blocks_of("# a{=x}", "b{#x}{^c}")
        before = copy.deepcopy(blocks)
        label_numbers(blocks)["y"] = "1"
        label_fault(blocks)
        self.assertEqual(blocks, before)
        self.assertEqual(label_numbers(blocks), {"x": "1"})


class FaultTest(unittest.TestCase):
    def assert_fault(self, texts, *fault):
        with self.subTest(texts=texts):
            self.assertEqual(label_fault(blocks_of(*texts)), fault or None)

    def test_no_fault(self):
        self.assert_fault([])
        self.assert_fault(["# a{=x}", "b{#x}{@x}{#y}", "! 1 {=y}", "{@z}", "{=z}"])
        self.assert_fault(["|{=x}|{#x}|", "a{^{=y}{#y}{@x}}"])

    def test_labels_that_are_given_twice(self):
        self.assert_fault(["# a{=x}", "b", "c{=x}"], 2, "x", "twice")
        self.assert_fault(["a", "b{=x}{=x}"], 1, "x", "twice")
        for one, other in itertools.product(("a{=x}", "# a{=x}", "|{=x}|", "b{^{=x}}", "! 1 {=x}", "- {=x}"), repeat=2):
            self.assert_fault([one, other], 1, "x", "twice")
        self.assert_fault(["a{=x}{^{=x}}"], 0, "x", "twice")
        self.assert_fault(["a{^{=x}}{^{=x}}"], 0, "x", "twice")
        self.assert_fault(["|{=x}|a{^{=x}}|"], 0, "x", "twice")
        self.assert_fault(["|{=x}|{=x}|"], 0, "x", "twice")

    def test_the_first_label_that_was_given_before(self):
        self.assert_fault(["{=a}{=b}{=c}", "{=d}{=c}{=b}{=a}"], 1, "c", "twice")
        self.assert_fault(["{=a}{=b}", "x{^{=b}}{=a}"], 1, "a", "twice")
        self.assert_fault(["{=a}{=b}", "|x{^{=a}}|\n|{=b}|"], 1, "b", "twice")
        self.assert_fault(["{=a}{=b}", "x{^{=b}}{^{=a}}"], 1, "b", "twice")
        self.assert_fault(["{=a}{=b}{=c}", "|{=c}|{=b}|\n|{=a}|x|"], 1, "c", "twice")
        self.assert_fault(["{=a}", "{=a}", "{=a}"], 1, "a", "twice")

    def test_missing_labels(self):
        for mark in ("{#x}", "{@x}"):
            for text in ("a" + mark, "# a" + mark, "> " + mark, "! 1 " + mark, "|a|" + mark + "|", "a{^" + mark + "}"):
                self.assert_fault(["# a{=y}", text], 1, "x", "missing")
        self.assert_fault(["{#y}{@x}{=y}", "# b"], 0, "x", "missing")

    def test_numbers_that_are_empty(self):
        self.assert_fault(["{=x}", "# b", "{#x}"], 2, "x", "unnumbered")
        self.assert_fault(["{#x}", "- {=x}", "# b"], 0, "x", "unnumbered")
        self.assert_fault(["{@x}", "> {=x}"])
        self.assert_fault(["# a", "{=x}{#x}"])
        self.assert_fault(["{#x}{#y}{#z}", "! 1 {=x}{^{=y}}", "|{=z}|"])

    def test_index_terms_are_ignored(self):
        self.assert_fault(["{!x}{!x}", "{!x}{=x}{#x}"], 1, "x", "unnumbered")
        self.assert_fault(["{!x}{!x}", "# {!x}{=x}{#x}"])
        self.assert_fault(["{!x}{@x}"], 0, "x", "missing")

    def test_twice_comes_before_the_others(self):
        self.assert_fault(["{#x}", "{@y}", "{=a}", "{=a}"], 3, "a", "twice")
        self.assert_fault(["{#x}{=a}{=a}"], 0, "a", "twice")

    def test_the_first_block_counts(self):
        self.assert_fault(["{=u}", "{#u}", "{#x}"], 1, "u", "unnumbered")
        self.assert_fault(["{=u}", "{@x}", "{#u}"], 1, "x", "missing")

    def test_in_a_block_missing_comes_before_unnumbered(self):
        self.assert_fault(["{=u}", "{#u}{@x}"], 1, "x", "missing")
        self.assert_fault(["{=u}", "{#u}{^{#x}}"], 1, "x", "missing")
        self.assert_fault(["{=u}{=v}", "|{#u}|{^{#v}{#x}}|"], 1, "x", "missing")

    def test_the_first_one_in_the_order_of_the_block(self):
        self.assert_fault(["{@x}{#y}"], 0, "x", "missing")
        self.assert_fault(["a{^{@x}}{#y}"], 0, "y", "missing")
        self.assert_fault(["|a{^{@x}}|{#y}|\n|{#z}|b|"], 0, "y", "missing")
        self.assert_fault(["|a|b|\n|{#z}{@y}|b{^{#x}}|"], 0, "z", "missing")
        self.assert_fault(["a{^{@x}}{^{@y}}"], 0, "x", "missing")
        self.assert_fault(["{=u}{=v}", "a{^{#u}}{#v}"], 1, "v", "unnumbered")
        self.assert_fault(["{=u}{=v}", "{#v}{#u}"], 1, "v", "unnumbered")
        self.assert_fault(["{=u}{=v}", "|a{^{#u}}|{#v}|"], 1, "v", "unnumbered")


class ManyBooksTest(unittest.TestCase):
    def test_many_books(self):
        numbers = random.Random(66)
        found = {"twice": 0, "missing": 0, "unnumbered": 0, None: 0}
        for _ in range(1500):
            fresh = list("abcdefghijklmnopqrstuvwxyzABCDEFGHIJKLMNOPQRSTUVWXYZ")
            texts = [self.some_text(numbers, fresh) for _ in range(numbers.randint(0, 4))]
            blocks = blocks_of(*texts)
            with self.subTest(texts=texts):
                self.assertEqual(label_numbers(blocks), self.numbers(blocks))
                fault = self.fault(blocks)
                self.assertEqual(label_fault(blocks), fault)
                found[fault and fault[2]] += 1
        self.assertGreater(min(found.values()), 20)

    def some_text(self, numbers, fresh):
        def marks():
            given = fresh.pop(0) if numbers.random() < 0.95 else "a"
            asked = numbers.choice("aabbccdeh")
            mark = numbers.choice(("", "{=%s}", "{=%s}", "{!%s}")).replace("%s", given)
            return mark + numbers.choice(("", "", "", "", "", "", "{#%s}", "{#%s}", "{@%s}")).replace("%s", asked)

        def text():
            note = "{^" + marks() + "}" if numbers.random() < 0.3 else ""
            return "x" + marks() + note + marks()

        sign = numbers.choice(("# ", "## ", "### ", "- ", "> ", "! 5 ", "", "|"))
        return f"|{text()}|{text()}|\n||{text()}|" if sign == "|" else sign + text()

    def parts(self, block):
        """The parts of a block in order, each with the index of a note or None."""
        _, body, notes, rows = block
        cells = [pieces for row in rows for _, pieces in row]
        return [(None, part) for part in [body, *cells]] + list(enumerate(notes))

    def places(self, blocks):
        """Tuples (block, label, number) of the labels that are given, index terms left out."""
        found, notes = [], 0
        for index, block in enumerate(blocks):
            for note, part in self.parts(block):
                for piece in part:
                    if piece[0] == "label" and piece[1][0] != "!":
                        number = self.number(blocks, index) if note is None else str(notes + note + 1)
                        found.append((index, piece[1], number))
            notes += len(block[2])
        return found

    def number(self, blocks, index):
        kinds = [block[0] for block in blocks[:index + 1]]
        name = kinds[-1][0]
        if name in ("figure", "table"):
            return str(sum(1 for kind in kinds if kind[0] == name))
        levels = [kind[1] for kind in kinds if kind[0] == "head"]
        return (NumbersTest().expected(levels) or [""])[-1]

    def numbers(self, blocks):
        return {label: number for _, label, number in reversed(self.places(blocks))}

    def fault(self, blocks):
        seen = []
        for index, label, _ in self.places(blocks):
            if label in seen:
                return (index, label, "twice")
            seen.append(label)
        numbers = self.numbers(blocks)
        for index, block in enumerate(blocks):
            pieces = [piece for _, part in self.parts(block) for piece in part]
            for piece in pieces:
                if piece[0] in ("number", "page") and piece[2] not in numbers:
                    return (index, piece[2], "missing")
            for piece in pieces:
                if piece[0] == "number" and numbers[piece[2]] == "":
                    return (index, piece[2], "unnumbered")
        return None


if __name__ == "__main__":
    unittest.main()
