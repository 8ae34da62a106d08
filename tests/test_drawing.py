"""Points 84 and 85: what is drawn on a page."""

import unittest

from test_book import style
from test_layout import book_of

from folio.book import Book
from folio.fonts import Font
from folio.textform import page_text, read_page


def text(x, y, letters, number=0):
    return ("text", x, y, number, tuple(ord(letter) for letter in letters))


def rule(x, y, width, height):
    return ("rule", x, y, width, height)


def laid_out(*texts, **more):
    book = book_of(*texts, **{"width": 200, "height": 100, "gap": 7, "wait": 1, **more})
    book.layout()
    return book


class DrawingTest(unittest.TestCase):
    def assert_page(self, book, number, height, *draws):
        with self.subTest(page=number):
            found = book.page(number)
            self.assertIs(type(found), tuple)
            self.assertIs(type(found[1]), list)
            self.assertEqual(found, (height, list(draws)))
            self.assertEqual(book.page_text(number), page_text(found[1]))
            self.assertEqual(read_page(book.page_text(number)), found[1])


class ContentTest(DrawingTest):
    def test_lines_and_space(self):
        book = laid_out("a", "bb\\/c", "# d")
        self.assert_page(
            book, 1, 100, text(0, 0, "a"), text(0, 17, "bb"), text(0, 27, "c"), text(0, 44, "1", 3), text(20, 44, "d", 3)
        )
        self.assertEqual(book.page_count(), 1)

    def test_what_vanishes_at_the_ends_of_a_page(self):
        book = laid_out("a", "[page]", "b", "c", "[page]", "[page]", "d")
        self.assertEqual(book.page_count(), 4)
        self.assert_page(book, 1, 100, text(0, 0, "a"))
        self.assert_page(book, 2, 100, text(0, 0, "b"), text(0, 17, "c"))
        self.assert_page(book, 3, 100)
        self.assertEqual(book.page_text(3), "")
        self.assert_page(book, 4, 100, text(0, 0, "d"))

    def test_a_block_of_several_pages(self):
        book = laid_out("a\\/b\\/c\\/d\\/e", height=20)
        self.assert_page(book, 1, 20, text(0, 0, "a"), text(0, 10, "b"))
        self.assert_page(book, 2, 20, text(0, 0, "c"), text(0, 10, "d"))
        self.assert_page(book, 3, 20, text(0, 0, "e"))

    def test_a_page_that_is_higher_than_the_style(self):
        fonts = [Font(line=line, space=10, stretch=0, shrink=0, figure=10, other=10) for line in (10, 60)]
        book = laid_out("a", "*b*\\/c", height=40, fonts=fonts, gap=0)
        self.assertEqual(book.page_count(), 3)
        self.assert_page(book, 1, 40, text(0, 0, "a"))
        self.assert_page(book, 2, 60, text(0, 0, "b", 1))
        self.assert_page(book, 3, 40, text(0, 0, "c"))

    def test_draws_are_not_the_books(self):
        book = laid_out("a", "b")
        before = book.page(1)
        book.page(1)[1].clear()
        self.assertEqual(book.page(1), before)
        book.page(1)[1].append(rule(0, 0, 1, 1))
        self.assertEqual(book.page(1), before)
        self.assertEqual(book.layout()[2:], (0, 0))
        self.assertEqual(book.page(1), before)


class FloatsTest(DrawingTest):
    FRAME = (rule(0, 0, 200, 1), rule(0, 1, 1, 8), rule(199, 1, 1, 8), rule(0, 9, 200, 1))

    def lowered(self, by):
        return [(kind, x, y + by, *more) for kind, x, y, *more in self.FRAME]

    def caption(self, y, number, letter):
        return [text(0, y, "Figure", 4), text(70, y, number + ":", 4), text(100, y, letter)]

    def test_floats_and_content(self):
        book = laid_out("a", "! 10 b", rule=1, float_gap=5, cell_gap=3)
        self.assertEqual(book.page_count(), 1)
        self.assert_page(book, 1, 100, *self.FRAME, *self.caption(13, "1", "b"), text(0, 28, "a"))

    def test_several_floats(self):
        book = laid_out("a", "! 10 b", "! 10 c", "d", rule=1, float_gap=5)
        self.assert_page(
            book, 1, 100, *self.FRAME, *self.caption(10, "1", "b"), *self.lowered(25), *self.caption(35, "2", "c"),
            text(0, 50, "a"), text(0, 67, "d"),
        )

    def test_floats_alone(self):
        book = laid_out("! 10 b", "! 10 c", rule=1, float_gap=5, height=30)
        self.assertEqual(book.page_count(), 2)
        self.assert_page(book, 1, 30, *self.FRAME, *self.caption(10, "1", "b"))
        self.assert_page(book, 2, 30, *self.FRAME, *self.caption(10, "2", "c"))

    def test_a_float_that_is_higher_than_the_page(self):
        book = laid_out("a", "! 10 b", "c", rule=1, float_gap=5, height=24)
        self.assertEqual(book.page_count(), 3)
        self.assert_page(book, 3, 25, *self.FRAME, *self.caption(10, "1", "b"))
        self.assertEqual(book.page_costs()[2], (5, 5, 0, 1, 0, 0, 0, 25, None))
        self.assertEqual(book.places_of(1), [(3, 0, 1)])

    def test_floats_that_wait(self):
        book = laid_out("! 10 b", "a", "c\\/d", rule=1, height=30, gap=0)
        self.assertEqual([costs[:4] for costs in book.page_costs()], [(0, 3, 0, 1), (3, 7, 1, 1)])
        self.assert_page(book, 1, 30, *self.FRAME, *self.caption(10, "1", "b"), text(0, 20, "a"))
        self.assert_page(book, 2, 30, text(0, 0, "c"), text(0, 10, "d"))

    def test_notes_of_captions_are_lines(self):
        book = laid_out("! 10 b{^c}", rule=1, note_gap=10)
        self.assert_page(
            book, 1, 100, *self.FRAME, *self.caption(10, "1", "b"), text(110, 10, "1", 4), text(0, 20, "1", 4),
            text(20, 20, "c", 4),
        )


class RepeatedLinesTest(DrawingTest):
    TABLE = "|h{^n}|\n|-\n|a|\n|b|\n|c|"

    def test_lines_that_are_repeated(self):
        book = laid_out(self.TABLE, height=50)
        self.assertEqual(book.page_count(), 2)
        first, second = book.page(1), book.page(2)
        self.assertEqual([draw for draw in first[1] if draw[0] == "text"], [
            text(0, 0, "Table", 4), text(60, 0, "1", 4), text(90, 10, "h"), text(100, 10, "1", 4), text(90, 20, "a"),
            text(90, 30, "b"), text(0, 40, "1", 4), text(20, 40, "n", 4),
        ])
        # The note is not drawn again.
        self.assertEqual([draw for draw in second[1] if draw[0] == "text"], [
            text(0, 0, "Table", 4), text(60, 0, "1", 4), text(90, 10, "h"), text(100, 10, "1", 4), text(90, 20, "c"),
        ])
        self.assertEqual((first[0], second[0]), (50, 50))
        self.assertEqual(book.page_costs()[1][4:8], (10, 20, 0, 0))

    def test_lines_are_repeated_behind_floats(self):
        book = laid_out(self.TABLE, "! 5", height=50, float_gap=3)
        second = [draw for draw in book.page(2)[1] if draw[0] == "text"]
        self.assertEqual(second[:2], [text(0, 5, "Figure", 4), text(70, 5, "1:", 4)])
        self.assertEqual(second[2:4], [text(0, 18, "Table", 4), text(60, 18, "1", 4)])
        self.assertEqual(second[-1], text(90, 38, "c"))

    def test_the_first_line_of_the_content_decides(self):
        # The table begins on the page, so its heads are drawn once.
        book = laid_out("x", "|h|\n|-\n|a|", height=50)
        texts = [draw[4] for draw in book.page(1)[1] if draw[0] == "text"]
        self.assertEqual(texts.count((104,)), 1)
        # On the last page of the table other blocks follow.
        book = laid_out("|h|\n|-\n|a|\n|b|", "y", height=40, gap=5, widow=10, orphan=9000)
        self.assertEqual([len([d for d in book.page(n)[1] if d[0] == "text"]) for n in (1, 2)], [5, 1])

    def test_heads_of_several_lines(self):
        book = laid_out("|h|\n|i|\n|-\n|a|\n|b|", height=40, gap=0)
        self.assertEqual(book.page_count(), 2)
        texts = [[chr(draw[4][0]) for draw in book.page(number)[1] if draw[0] == "text"] for number in (1, 2)]
        self.assertEqual(texts, [["T", "1", "h", "i", "a"], ["T", "1", "h", "i", "b"]])
        self.assertEqual([draw[2] for draw in book.page(2)[1] if draw[0] == "text"], [0, 0, 10, 20, 30])

    def test_the_least_height_of_heads(self):
        # Of the heads nothing is higher than 0 but the caption.
        fonts = [Font(line=1, space=10, stretch=0, shrink=0, figure=10, other=10)]
        book = laid_out("| |\n|-\n|a|\n|b|", height=2, gap=0, fonts=fonts)
        self.assertEqual([costs[4:6] for costs in book.page_costs()], [(2, 0), (1, 1)])
        texts = [draw for draw in book.page(2)[1] if draw[0] == "text"]
        self.assertEqual(texts, [text(0, 0, "Table", 4), text(60, 0, "1", 4), text(95, 1, "b")])

    def test_a_page_that_begins_in_the_heads(self):
        book = laid_out("|h|\n|i|\n|-\n|a|\n|b|", height=20, gap=0)
        texts = [[chr(draw[4][0]) for draw in book.page(number)[1] if draw[0] == "text"] for number in (1, 2, 3)]
        self.assertEqual(texts, [["T", "1", "h"], ["i", "a"], ["T", "1", "h", "i", "b"]])
        self.assertEqual([book.page(number)[0] for number in (1, 2, 3)], [20, 20, 40])


class NotesTest(DrawingTest):
    def test_notes_stand_at_the_bottom(self):
        book = laid_out("a{^b}", "c{^d\\/e}", note_gap=6)
        self.assert_page(
            book, 1, 100, text(0, 0, "a"), text(10, 0, "1", 4), text(0, 17, "c"), text(10, 17, "2", 4),
            text(0, 70, "1", 4), text(20, 70, "b", 4), text(0, 80, "2", 4), text(20, 80, "d", 4), text(0, 90, "e", 4),
        )

    def test_the_rule_above_the_notes(self):
        for wide, gap, y in ((1, 1, 89), (1, 2, 88), (1, 7, 86), (2, 7, 85), (6, 7, 83), (7, 7, 83)):
            book = laid_out("a{^b}", rule=wide, note_gap=gap)
            self.assert_page(
                book, 1, 100, text(0, 0, "a"), text(10, 0, "1", 4), rule(0, y, 66, wide), text(0, 90, "1", 4),
                text(20, 90, "b", 4),
            )

    def test_no_rule(self):
        for wide, gap in ((0, 0), (0, 5), (1, 0), (6, 5)):
            book = laid_out("a{^b}", rule=wide, note_gap=gap)
            self.assert_page(
                book, 1, 100, text(0, 0, "a"), text(10, 0, "1", 4), text(0, 90, "1", 4), text(20, 90, "b", 4)
            )
        self.assert_page(laid_out("a", rule=1, note_gap=5), 1, 100, text(0, 0, "a"))

    def test_the_width_of_the_rule(self):
        for width, third in ((90, 30), (91, 30), (92, 30), (93, 31)):
            book = laid_out("a{^b}", rule=1, note_gap=1, width=width)
            self.assertEqual(book.page(1)[1][2], rule(0, 89, third, 1))

    def test_notes_of_each_page(self):
        book = laid_out("a{^b}", "[page]", "c{^d}{^e}")
        self.assert_page(
            book, 1, 100, text(0, 0, "a"), text(10, 0, "1", 4), text(0, 90, "1", 4), text(20, 90, "b", 4)
        )
        self.assert_page(
            book, 2, 100, text(0, 0, "c"), text(10, 0, "2", 4), text(20, 0, "3", 4), text(0, 80, "2", 4),
            text(20, 80, "d", 4), text(0, 90, "3", 4), text(20, 90, "e", 4),
        )

    def test_notes_of_a_page_that_is_higher_than_the_style(self):
        book = laid_out("a{^b\\/c\\/d}", height=30, note_gap=4, rule=2)
        self.assert_page(
            book, 1, 44, text(0, 0, "a"), text(10, 0, "1", 4), rule(0, 11, 66, 2), text(0, 14, "1", 4),
            text(20, 14, "b", 4), text(0, 24, "c", 4), text(0, 34, "d", 4),
        )
        self.assertEqual(book.page_costs(), [(0, 2, 0, 0, 10, 0, 34, 0, (1, 0, 0))])

    def test_notes_in_notes_that_refer_to_pages(self):
        book = laid_out("a{^{@x}}", *["[page]"] * 9, "b{=x}")
        self.assertEqual(book.page(1)[1][2:], [text(0, 90, "1", 4), text(20, 90, "10", 4)])


class PageNumbersTest(DrawingTest):
    def test_page_numbers_fill_their_room(self):
        book = laid_out("{@x}b", "[page]", "c{=x}")
        self.assert_page(book, 1, 100, text(0, 0, "2"), text(10, 0, "b"))

    def test_page_numbers_stand_in_the_right_of_their_room(self):
        # In a first round the label is on page 10; then the first block is shorter, and it is on page 9.
        texts = ("a b{@x} ccccccc d e", *["[page]"] * 8, "f{=x}")
        book = laid_out(*texts, width=100, height=20)
        self.assertEqual(book.page_of("x"), 9)
        # By its shrunk spaces, b is at 15 and the room for the page begins at 25.
        drawn = book.page(1)[1]
        self.assertEqual(drawn[1][1] + 10 + 10, drawn[2][1])
        self.assertEqual(drawn[2][4], (57,))

    def test_the_font_of_a_page_number(self):
        fonts = [
            Font(line=10 + number, space=10, stretch=0, shrink=0, figure=10 + number, other=10) for number in range(3)
        ]
        book = laid_out("a *{@x}*{@x}", "[page]", "b{=x}", fonts=fonts)
        self.assert_page(book, 1, 100, text(0, 1, "a"), text(20, 0, "2", 1), text(31, 1, "2"))

    def test_pages_in_lists_of_contents(self):
        book = laid_out("[contents]", "[page]", "# a", "[page]", "## b", indent=15)
        self.assert_page(
            book, 1, 100, text(0, 0, "1"), text(20, 0, "a"), text(190, 0, "2"), text(15, 10, "1.1"), text(55, 10, "b"),
            text(190, 10, "3"),
        )

    def test_pages_from_10_on_in_lists_of_contents(self):
        book = laid_out("[contents]", *["[page]"] * 8, "# a", "[page]", "# b")
        self.assert_page(
            book, 1, 100, text(0, 0, "1"), text(20, 0, "a"), text(190, 0, "9"), text(0, 10, "2"), text(20, 10, "b"),
            text(180, 10, "10"),
        )

    def test_pages_in_captions_and_cells(self):
        book = laid_out("|{@x}|", "! 4 {@x}", "[page]", "b{=x}")
        texts = [draw for draw in book.page(1)[1] if draw[0] == "text"]
        self.assertEqual(texts, [
            text(0, 4, "Figure", 4), text(70, 4, "1:", 4), text(100, 4, "2"), text(0, 14, "Table", 4), text(60, 14, "1", 4),
            text(95, 24, "2"),
        ])


if __name__ == "__main__":
    unittest.main()
