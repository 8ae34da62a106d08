"""Point 86 and the section folio/textform.py of the interface."""

import random
import unittest

from folio.errors import BadDrawing, FolioError
from folio.textform import page_text, read_page


class WritingTest(unittest.TestCase):
    def assert_text(self, draws, expected):
        with self.subTest(draws=draws):
            found = page_text(draws)
            self.assertIs(type(found), str)
            self.assertEqual(found, expected)
            self.assertEqual(read_page(found), draws)

    def test_texts(self):
        self.assert_text([("text", 0, 10, 3, (97, 98))], "t 0 10 3 97 98")
        self.assert_text([("text", 12, 0, 0, (5,))], "t 12 0 0 5")
        self.assert_text([("text", 1, 2, 3, ())], "t 1 2 3")

    def test_rules(self):
        self.assert_text([("rule", 0, 20, 30, 1)], "r 0 20 30 1")

    def test_several_lines(self):
        draws = [("rule", 1, 2, 3, 4), ("text", 5, 6, 7, (8,)), ("text", 5, 6, 7, ()), ("rule", 1, 2, 3, 4)]
        self.assert_text(draws, "r 1 2 3 4\nt 5 6 7 8\nt 5 6 7\nr 1 2 3 4")

    def test_nothing_drawn(self):
        self.assert_text([], "")

    def test_large_numbers(self):
        large = 10 ** 59
        self.assert_text([("rule", large, 0, large - 1, 7)], f"r {large} 0 {large - 1} 7")
        self.assert_text([("text", large, 0, large, (large,))], f"t {large} 0 {large} {large}")

    def test_draws_are_not_changed(self):
        draws = [("text", 1, 2, 3, (4,))]
        page_text(draws)
        self.assertEqual(draws, [("text", 1, 2, 3, (4,))])


class ReadingTest(unittest.TestCase):
    def assert_read(self, text, *draws):
        with self.subTest(text=text):
            found = read_page(text)
            self.assertIs(type(found), list)
            self.assertEqual(found, list(draws))
            self.assertTrue(all(type(draw) is tuple for draw in found))
            self.assertEqual(page_text(found), text)

    def assert_bad(self, text, line):
        with self.subTest(text=text):
            with self.assertRaises(BadDrawing) as caught:
                read_page(text)
            self.assertEqual(caught.exception.line, line)
            self.assertIsInstance(caught.exception, FolioError)

    def test_the_example(self):
        self.assert_read("t 0 10 0 97 98\nr 0 20 30 1", ("text", 0, 10, 0, (97, 98)), ("rule", 0, 20, 30, 1))

    def test_nothing(self):
        self.assert_read("")

    def test_glyphs(self):
        self.assert_read("t 0 0 0", ("text", 0, 0, 0, ()))
        self.assert_read("t 0 0 0 0", ("text", 0, 0, 0, (0,)))
        self.assert_read("t 0 0 0 " + " ".join(["12345"] * 500), ("text", 0, 0, 0, (12345,) * 500))

    def test_empty_lines(self):
        self.assert_bad("\n", 1)
        self.assert_bad("r 1 2 3 4\n", 2)
        self.assert_bad("\nr 1 2 3 4", 1)
        self.assert_bad("r 1 2 3 4\n\nr 1 2 3 4", 2)
        self.assert_bad(" ", 1)

    def test_too_few_or_too_many_numbers(self):
        for text in ("t", "t 0", "t 0 0", "r", "r 0", "r 0 0 0", "r 0 0 0 0 0"):
            self.assert_bad(text, 1)

    def test_other_signs(self):
        for text in ("x 0 0 0 0", "T 0 0 0", "R 0 0 0 0", "0 0 0 0", "tr 0 0 0 0", "t0 0 0", "p 0 0 0 1 x", "# 1 2 3 4"):
            self.assert_bad(text, 1)

    def test_numbers_that_are_none(self):
        for word in ("a", "-1", "+1", "-0", "1.", "0x1", "1_0", "1,0", "'1'", "t", "1e3"):
            for text in (f"t {word} 0 0", f"t 0 0 {word}", f"t 0 0 0 {word}", f"r {word} 0 0 0", f"r 0 0 0 {word}"):
                self.assert_bad(text, 1)

    def test_leading_zeros(self):
        for word in ("00", "01", "007", "0" * 60):
            for text in (f"t {word} 0 0", f"t 0 0 0 {word}", f"r 0 0 {word} 0"):
                self.assert_bad(text, 1)
        self.assert_read("r 0 10 100 0", ("rule", 0, 10, 100, 0))

    def test_spaces(self):
        for text in (
            "t  0 0 0", "t 0  0 0", "t 0 0 0 ", "t 0 0 0  1", " t 0 0 0", "r 0 0 0 0 ", "r 0 0 0  0", "r  0 0 0 0",
            " r 0 0 0 0", "r 0 0 0 ", "t 0 0 ",
        ):
            self.assert_bad(text, 1)

    def test_the_length_of_numbers(self):
        for digit in "19":
            self.assert_read(f"r 0 {digit * 60} 0 0", ("rule", 0, int(digit * 60), 0, 0))
            self.assert_read(f"t 0 0 0 {digit * 60}", ("text", 0, 0, 0, (int(digit * 60),)))
            for text in (f"r {digit * 61} 0 0 0", f"t {digit * 61} 0 0", f"t 0 0 0 1 {digit * 61}", f"r 0 0 0 {digit * 5000}"):
                self.assert_bad(text, 1)

    def test_the_first_bad_line_counts(self):
        self.assert_bad("r 1 2 3 4\nt 0 0\nx\n", 2)
        self.assert_bad("r 1 2 3 4\nt 0 0 0\nt 0 0 0\nr 1", 4)
        self.assert_bad("t 0 0 0\n" * 20 + "r 0", 21)

    def test_many_pages(self):
        numbers = random.Random(86)
        for _ in range(300):
            draws = []
            for _ in range(numbers.randint(0, 5)):
                places = [numbers.choice((0, 1, 9, 10, 123456)) for _ in range(4)]
                if numbers.random() < 0.5:
                    draws.append(("rule", *places))
                else:
                    draws.append(("text", *places[:3], tuple(numbers.randint(0, 9999) for _ in range(numbers.randint(0, 4)))))
            self.assertEqual(read_page(page_text(draws)), draws)


if __name__ == "__main__":
    unittest.main()
