"""Points 77 to 80: how a book is changed, and which errors it raises."""

import unittest

from folio.book import Book
from folio.errors import (
    BadPlace, BadText, FolioError, LabelFault, NoSuchBlock, NoSuchLabel, NoSuchPage, NotLaidOut, TooManyBlocks,
)
from folio.fonts import Font, Style

FAULT = "*a"
QUESTIONS = (
    ("page_count",), ("page", 1), ("page", 0), ("page", 99), ("page_text", 1), ("page_text", 0), ("number_of", "x"),
    ("number_of", "none"), ("page_of", "x"), ("page_of", "none"), ("outline",), ("term_index",), ("all_items",),
    ("all_ends",), ("total_cost",), ("page_costs",), ("cost_of", []), ("places_of", 0), ("places_of", 99),
    ("places_of", -1),
)


def style(**more):
    font = Font(line=10, space=10, stretch=10, shrink=5, figure=10, other=10)
    return Style(**{"width": 100, "height": 60, "fonts": [font], "gap": 10, "rag": 50, **more})


def book_of(*texts):
    book = Book(style())
    for place, text in enumerate(texts):
        book.insert_block(place, text)
    return book


class BookTest(unittest.TestCase):
    def assert_sources(self, book, *texts):
        found = book.sources()
        self.assertIs(type(found), list)
        self.assertEqual(found, list(texts))

    def assert_raises(self, error, book, name, *arguments):
        """The call raises the error, and nothing changes."""
        before = (book.sources(), book.is_laid_out())
        with self.subTest(call=(name, *arguments)):
            with self.assertRaises(error) as caught:
                getattr(book, name)(*arguments)
            self.assertIs(type(caught.exception), error)
            self.assertIsInstance(caught.exception, FolioError)
            self.assertEqual((book.sources(), book.is_laid_out()), before)
        return caught.exception


class ChangesTest(BookTest):
    def test_a_new_book(self):
        book = Book(style())
        self.assert_sources(book)
        self.assertIs(book.is_laid_out(), False)
        self.assertIs(book.undo(), False)
        self.assertIs(book.redo(), False)

    def test_insertions(self):
        book = Book(style())
        self.assertIsNone(book.insert_block(0, "a"))
        self.assertIsNone(book.insert_block(1, "b"))
        self.assertIsNone(book.insert_block(0, "c"))
        self.assertIsNone(book.insert_block(1, "d"))
        self.assert_sources(book, "c", "d", "a", "b")

    def test_replacements(self):
        book = book_of("a", "b", "c")
        self.assertIsNone(book.replace_block(1, "d"))
        self.assert_sources(book, "a", "d", "c")
        book.replace_block(0, "e")
        book.replace_block(2, "f")
        self.assert_sources(book, "e", "d", "f")

    def test_removals(self):
        book = book_of("a", "b", "c", "d")
        self.assertIsNone(book.remove_block(1))
        self.assert_sources(book, "a", "c", "d")
        book.remove_block(2)
        book.remove_block(0)
        book.remove_block(0)
        self.assert_sources(book)

    def test_moves(self):
        texts = ["a", "b", "c", "d"]
        for place in range(4):
            for target in range(4):
                book = book_of(*texts)
                self.assertIsNone(book.move_block(place, target))
                expected = [text for text in texts if text != texts[place]]
                expected.insert(target, texts[place])
                self.assert_sources(book, *expected)

    def test_sources_are_kept_as_they_are(self):
        texts = ("  a \n\n b ", "#  x", "", "|a|\n\n|b|  ")
        self.assert_sources(book_of(*texts), *texts)

    def test_a_list_of_sources_is_not_the_books(self):
        book = book_of("a", "b")
        book.sources().append("c")
        book.sources().clear()
        self.assert_sources(book, "a", "b")

    def test_books_are_apart(self):
        one, other = Book(style()), Book(style())
        one.insert_block(0, "a")
        self.assert_sources(other)
        self.assertIs(other.undo(), False)


class ErrorsTest(BookTest):
    def test_places_of_insertions(self):
        book = book_of("a", "b")
        for place in (-3, -2, -1, 3, 4, 100):
            self.assert_raises(BadPlace, book, "insert_block", place, "c")
        self.assert_raises(BadPlace, Book(style()), "insert_block", 1, "a")

    def test_places_of_other_changes(self):
        book = book_of("a", "b")
        for place in (-3, -2, -1, 2, 3, 100):
            self.assert_raises(BadPlace, book, "replace_block", place, "c")
            self.assert_raises(BadPlace, book, "remove_block", place)
            self.assert_raises(BadPlace, book, "move_block", place, 0)
            self.assert_raises(BadPlace, book, "move_block", 0, place)
            self.assert_raises(BadPlace, book, "move_block", place, place)
        empty = Book(style())
        self.assert_raises(BadPlace, empty, "replace_block", 0, "a")
        self.assert_raises(BadPlace, empty, "remove_block", 0)
        self.assert_raises(BadPlace, empty, "move_block", 0, 0)

    def test_bad_texts(self):
        book = book_of("a")
        for name in ("insert_block", "replace_block"):
            found = self.assert_raises(BadText, book, name, 0, "b\n" + FAULT)
            self.assertEqual((found.line, found.column, found.what), (2, 3, "emphasis is not closed"))

    def test_too_many_blocks(self):
        book = book_of(*["a"] * 39)
        book.insert_block(20, "b")
        self.assertEqual(len(book.sources()), 40)
        for place in (0, 20, 40):
            self.assert_raises(TooManyBlocks, book, "insert_block", place, "c")
        book.replace_block(3, "d")
        book.move_block(3, 39)
        book.remove_block(0)
        book.insert_block(39, "e")
        self.assertEqual(len(book.sources()), 40)

    def test_the_order_of_errors(self):
        book = book_of(*["a"] * 40)
        self.assert_raises(BadPlace, book, "insert_block", 41, FAULT)
        self.assert_raises(BadText, book, "insert_block", 40, FAULT)
        self.assert_raises(TooManyBlocks, book, "insert_block", 40, "b")
        self.assert_raises(BadPlace, book, "insert_block", -1, "b")
        self.assert_raises(BadPlace, book, "replace_block", 40, FAULT)
        self.assert_raises(BadText, book, "replace_block", 39, FAULT)

    def test_nothing_changes_behind_an_error(self):
        book = book_of("a", "b")
        book.replace_block(0, "c")
        book.undo()
        book.layout()
        for name, *arguments in (
            ("insert_block", 5, "x"), ("insert_block", 0, FAULT), ("replace_block", 2, "x"), ("replace_block", 0, FAULT),
            ("remove_block", 2), ("move_block", 0, 2),
        ):
            with self.assertRaises(FolioError):
                getattr(book, name)(*arguments)
            self.assertIs(book.is_laid_out(), True)
        # What was undone can still be redone, and no change was added.
        self.assertIs(book.redo(), True)
        self.assert_sources(book, "c", "b")
        for _ in range(3):
            self.assertIs(book.undo(), True)
        self.assert_sources(book)
        self.assertIs(book.undo(), False)

    def test_what_is_asked_of_a_book_that_is_not_laid_out(self):
        book = book_of("# a{=x}")
        for name, *arguments in QUESTIONS:
            self.assert_raises(NotLaidOut, book, name, *arguments)
        for name, *arguments in QUESTIONS:
            self.assert_raises(NotLaidOut, Book(style()), name, *arguments)

    def test_what_makes_a_book_not_laid_out(self):
        changes = (
            ("insert_block", 0, "b"), ("replace_block", 0, "b"), ("replace_block", 0, "# a{=x}"), ("remove_block", 0),
            ("move_block", 0, 0), ("undo",),
        )
        for name, *arguments in changes:
            book = book_of("# a{=x}")
            book.layout()
            self.assertIs(book.is_laid_out(), True)
            getattr(book, name)(*arguments)
            self.assertIs(book.is_laid_out(), False)
            for question, *more in QUESTIONS:
                self.assert_raises(NotLaidOut, book, question, *more)
            book.layout()
            self.assertIs(book.is_laid_out(), True)
        book = book_of("a")
        book.undo()
        book.layout()
        book.redo()
        self.assertIs(book.is_laid_out(), False)

    def test_undoing_and_redoing_nothing(self):
        book = book_of("a")
        book.layout()
        self.assertIs(book.redo(), False)
        self.assertIs(book.is_laid_out(), True)
        empty = Book(style())
        empty.layout()
        self.assertIs(empty.undo(), False)
        self.assertIs(empty.redo(), False)
        self.assertIs(empty.is_laid_out(), True)

    def test_pages_that_are_none(self):
        book = book_of("a", "[page]", "b")
        book.layout()
        self.assertEqual(book.page_count(), 2)
        for number in (-1, 0, 3, 4):
            self.assert_raises(NoSuchPage, book, "page", number)
            self.assert_raises(NoSuchPage, book, "page_text", number)
        empty = Book(style())
        empty.layout()
        self.assert_raises(NoSuchPage, empty, "page", 1)
        self.assert_raises(NoSuchPage, empty, "page_text", 1)

    def test_labels_that_are_none(self):
        book = book_of("# a{=x}{!t}", "# b")
        book.layout()
        for label in ("y", "", "X", "!t", "t", "#0", "#1", "#2", "0"):
            self.assert_raises(NoSuchLabel, book, "number_of", label)
            self.assert_raises(NoSuchLabel, book, "page_of", label)
        book.remove_block(0)
        book.layout()
        self.assert_raises(NoSuchLabel, book, "page_of", "x")

    def test_blocks_that_are_none(self):
        book = book_of("a", "b")
        book.layout()
        for number in (-1, -2, 2, 3):
            self.assert_raises(NoSuchBlock, book, "places_of", number)

    def test_faults_of_labels(self):
        for texts, fault in (
            (["a{=x}", "b{=x}"], (1, "x", "twice")), (["a", "{@x}"], (1, "x", "missing")),
            (["a{=x}", "b", "{#x}"], (2, "x", "unnumbered")),
        ):
            found = self.assert_raises(LabelFault, book_of(*texts), "layout")
            self.assertEqual((found.block, found.label, found.what), fault)

    def test_a_book_stays_as_it_is_behind_a_fault(self):
        book = book_of("a b c", "d")
        book.layout()
        book.insert_block(2, "{@x}")
        for _ in range(2):
            self.assert_raises(LabelFault, book, "layout")
        self.assert_raises(NotLaidOut, book, "page_count")
        # What was kept of the last layout is kept still.
        book.remove_block(2)
        self.assertEqual(book.layout(), (1, 1, 0, 0))
        self.assertIs(book.undo(), True)
        self.assert_sources(book, "a b c", "d", "{@x}")


class UndoTest(BookTest):
    def test_each_change(self):
        for name, *arguments in (
            ("insert_block", 1, "x"), ("replace_block", 0, "x"), ("remove_block", 2), ("move_block", 0, 2),
        ):
            book = book_of("a", "b", "c")
            getattr(book, name)(*arguments)
            changed = book.sources()
            self.assertIs(book.undo(), True)
            self.assert_sources(book, "a", "b", "c")
            self.assertIs(book.redo(), True)
            self.assert_sources(book, *changed)
            self.assertIs(book.redo(), False)
            self.assert_sources(book, *changed)

    def test_all_the_way_back_and_forth(self):
        book = book_of("a", "b", "c")
        for expected in (["a", "b"], ["a"], []):
            self.assertIs(book.undo(), True)
            self.assert_sources(book, *expected)
        self.assertIs(book.undo(), False)
        self.assert_sources(book)
        for expected in (["a"], ["a", "b"], ["a", "b", "c"]):
            self.assertIs(book.redo(), True)
            self.assert_sources(book, *expected)
        self.assertIs(book.redo(), False)

    def test_a_change_drops_what_was_undone(self):
        for name, *arguments in (
            ("insert_block", 1, "x"), ("replace_block", 0, "x"), ("remove_block", 0), ("move_block", 0, 0),
        ):
            book = book_of("a", "b")
            book.undo()
            getattr(book, name)(*arguments)
            changed = book.sources()
            self.assertIs(book.redo(), False)
            self.assert_sources(book, *changed)
            book.undo()
            self.assert_sources(book, "a")
            book.undo()
            self.assert_sources(book)

    def test_changes_that_leave_the_sources_as_they_are(self):
        for name, *arguments in (("replace_block", 0, "a"), ("move_block", 1, 1)):
            book = book_of("a", "b")
            getattr(book, name)(*arguments)
            self.assert_sources(book, "a", "b")
            self.assertIs(book.undo(), True)
            self.assert_sources(book, "a", "b")
            self.assertIs(book.undo(), True)
            self.assert_sources(book, "a")
            self.assertIs(book.redo(), True)
            self.assertIs(book.redo(), True)
            self.assertIs(book.redo(), False)
            self.assert_sources(book, "a", "b")

    def test_32_earlier_lists_are_kept(self):
        for changes, undone in ((31, 31), (32, 32), (33, 32), (40, 32)):
            book = Book(style())
            for number in range(changes):
                book.insert_block(number, str(number))
            for _ in range(undone):
                self.assertIs(book.undo(), True)
            self.assertIs(book.undo(), False)
            self.assert_sources(book, *[str(number) for number in range(changes - undone)])
            for _ in range(undone):
                self.assertIs(book.redo(), True)
            self.assertIs(book.redo(), False)
            self.assert_sources(book, *[str(number) for number in range(changes)])

    def test_32_earlier_lists_are_kept_behind_redoing(self):
        book = Book(style())
        for number in range(40):
            book.insert_block(number, str(number))
        for _ in range(20):
            book.undo()
        for _ in range(20):
            book.redo()
        for _ in range(32):
            self.assertIs(book.undo(), True)
        self.assertIs(book.undo(), False)
        self.assert_sources(book, *[str(number) for number in range(8)])

    def test_undoing_is_no_change(self):
        book = book_of("a", "b")
        book.undo()
        book.undo()
        self.assertIs(book.undo(), False)
        book.redo()
        book.undo()
        book.redo()
        book.redo()
        self.assert_sources(book, "a", "b")
        self.assertIs(book.redo(), False)

    def test_errors_of_blocks_that_come_back(self):
        book = book_of(*["a"] * 40)
        book.remove_block(0)
        book.undo()
        self.assertEqual(len(book.sources()), 40)
        self.assert_raises(TooManyBlocks, book, "insert_block", 0, "b")


if __name__ == "__main__":
    unittest.main()
