"""The whole program: a book that is changed in any order tells what a new book tells, and what the document says."""

import random
import unittest

import book_oracle

from folio.book import Book
from folio.errors import LabelFault
from folio.fonts import Font, Style

LABELS = "abcdefgh"
REFERENCES = ("{#a}", "{@a}", "{@b}", "{@c}", "{#d}", "{@d}", "{@e}")


class Editor:
    """Changes a book at random, and does the same with lists of sources."""

    def __init__(self, numbers, style, most):
        self.numbers = numbers
        self.book = Book(style)
        self.most = most
        self.sources, self.earlier, self.later = [], [], []
        self.marks = [f"{{={label}}}" for label in LABELS[4:]] + list(REFERENCES)
        numbers.shuffle(self.marks)
        # Nearly all references have a label, and nearly all of these a number.
        self.insert(0, "# " + "".join(f"{{={label}}}" for label in LABELS[:4]) + "First")

    def change(self, sources):
        self.earlier = (self.earlier + [self.sources])[-32:]
        self.later = []
        self.sources = sources

    def insert(self, place, text):
        self.book.insert_block(place, text)
        self.change(self.sources[:place] + [text] + self.sources[place:])

    def edit(self):
        numbers, count = self.numbers, len(self.sources)
        kind = numbers.random()
        place = numbers.randrange(count) if count else 0
        if count == 0 or (kind < 0.45 and count < self.most):
            self.insert(numbers.randint(0, count), book_oracle.some_source(numbers, self.marks))
        elif kind < 0.6:
            text = numbers.choice((self.sources[place], book_oracle.some_source(numbers, self.marks)))
            self.book.replace_block(place, text)
            self.change(self.sources[:place] + [text] + self.sources[place + 1:])
        elif kind < 0.7:
            self.book.remove_block(place)
            self.change(self.sources[:place] + self.sources[place + 1:])
        elif kind < 0.8:
            target = numbers.randrange(count)
            self.book.move_block(place, target)
            others = self.sources[:place] + self.sources[place + 1:]
            self.change(others[:target] + [self.sources[place]] + others[target:])
        elif kind < 0.92:
            self.go(self.book.undo(), self.earlier, self.later)
        else:
            self.go(self.book.redo(), self.later, self.earlier)

    def go(self, done, from_lists, to_lists):
        assert done == bool(from_lists)
        if done:
            to_lists.append(self.sources)
            del to_lists[:-32]
            self.sources = from_lists.pop()


class WholeTest(unittest.TestCase):
    def test_books_that_are_changed(self):
        numbers = random.Random(1)
        seen = {"laid out": 0, "fault": 0, "rounds": 0}
        for _ in range(25):
            style = book_oracle.some_style(numbers, Font, Style, height=numbers.choice((20, 30, 60, 120)))
            editor = Editor(numbers, style, 12)
            kept = None
            for _ in range(30):
                editor.edit()
                self.assertEqual(editor.book.sources(), editor.sources)
                if numbers.random() < 0.5:
                    kept = self.lay_out(style, editor.book, kept, seen)
        self.assertGreater(seen["laid out"], 100)
        self.assertGreater(seen["fault"], 20)
        self.assertGreater(seen["rounds"], 20)

    def lay_out(self, style, book, kept, seen):
        """Lays a book out and compares it with a model; returns what is kept then."""
        with self.subTest(sources=book.sources(), style=vars(style)):
            try:
                found = book.layout()
            except LabelFault:
                seen["fault"] += 1
                self.assertIs(book.is_laid_out(), False)
                return kept
            model = book_oracle.Model(style, book.sources(), kept)
            self.assertEqual(found, model.result)
            told = book_oracle.told_by_book(book)
            self.assertEqual(told, book_oracle.told_by_model(model))
            fresh = Book(style)
            for place, text in enumerate(book.sources()):
                fresh.insert_block(place, text)
            self.assertEqual(fresh.layout()[:2], found[:2])
            self.assertEqual(book_oracle.told_by_book(fresh), told)
            seen["laid out"] += 1
            seen["rounds"] += found[1] > 1
            # What is kept behind a second layout is the same.
            self.assertEqual(book.layout(), found[:2] + (0, 0))
            return model.kept

    def test_a_second_layout(self):
        numbers = random.Random(2)
        for _ in range(20):
            style = book_oracle.some_style(numbers, Font, Style, width=60, height=40)
            book = Book(style)
            book.insert_block(0, "# a{=a}{=b}")
            for place in range(15):
                book.insert_block(place, book_oracle.some_source(numbers, ["{@a}", "{@b}"]))
            first = book.layout()
            told = book_oracle.told_by_book(book)
            self.assertEqual(book.layout(), first[:2] + (0, 0))
            self.assertEqual(book_oracle.told_by_book(book), told)

    def test_large_books(self):
        numbers = random.Random(3)
        for width, height in ((60, 40), (150, 120)):
            style = book_oracle.some_style(numbers, Font, Style, width=width, height=height)
            book = Book(style)
            for place in range(40):
                marks = ["{@a}", "{@b}"] if place != 20 else []
                text = "# {=a}a{=b}" if place == 20 else book_oracle.some_source(numbers, marks, 90)
                book.insert_block(place, text)
            result = book.layout()
            model = book_oracle.Model(style, book.sources())
            self.assertEqual(result, model.result)
            self.assertEqual(book_oracle.told_by_book(book), book_oracle.told_by_model(model))
            book.move_block(20, 39)
            result = book.layout()
            again = book_oracle.Model(style, book.sources(), model.kept)
            self.assertEqual(result, again.result)
            self.assertEqual(book_oracle.told_by_book(book), book_oracle.told_by_model(again))

    def test_styles_and_fonts_are_shared(self):
        # Two books with one style do not disturb each other.
        font = Font(line=10, space=10, stretch=10, shrink=5, figure=10, other=10)
        style = Style(width=100, height=60, fonts=[font])
        one, other = Book(style), Book(style)
        one.insert_block(0, "a")
        other.insert_block(0, "b")
        self.assertEqual((one.layout(), other.layout()), ((1, 1, 1, 2), (1, 1, 1, 2)))
        self.assertEqual((one.page_text(1), other.page_text(1)), ("t 0 0 0 97", "t 0 0 0 98"))

    def test_lists_that_a_style_was_made_of(self):
        fonts = [Font(line=10, space=10, stretch=10, shrink=5, figure=10, other=10)]
        patterns = ["a1b"]
        style = Style(width=30, height=60, fonts=fonts, patterns=patterns)
        book = Book(style)
        book.insert_block(0, "aabbb")
        book.layout()
        before = book.page_text(1)
        fonts.clear()
        patterns.clear()
        fresh = Book(style)
        fresh.insert_block(0, "aabbb")
        fresh.layout()
        self.assertEqual(fresh.page_text(1), before)
        self.assertEqual(book.page_text(1), before)
        self.assertEqual(before, "t 0 0 0 97 97\nt 20 0 0 45\nt 0 10 0 98 98 98")


if __name__ == "__main__":
    unittest.main()
