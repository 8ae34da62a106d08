"""Points 72 to 76: how a book is laid out, in rounds, and what is used again."""

import unittest

from test_book import style

from folio.book import Book

# With room for one figure this has three lines of the width 100, with room for two figures it has two lines.
SHRINKING = "a b{@x} ccccccc d e"
# With room for one figure this has one line, with room for two figures it has two lines.
GROWING = "aaaa bbbb{@x}"


def book_of(*texts, **more):
    book = Book(style(**{"height": 200, **more}))
    for place, text in enumerate(texts):
        book.insert_block(place, text)
    return book


class LayoutTest(unittest.TestCase):
    def assert_layout(self, book, *expected):
        found = book.layout()
        self.assertIs(type(found), tuple)
        self.assertEqual(found, expected)
        self.assertEqual(book.page_count(), expected[0])
        # A second layout finds everything already made.
        self.assertEqual(book.layout(), expected[:2] + (0, 0))


class RoundsTest(LayoutTest):
    def test_one_round(self):
        self.assert_layout(book_of("# a{=x}", "b{@x}", "[page]", "{!t}"), 2, 1, 4, 7)
        # Labels on page 9 have one figure.
        book = book_of("{@x}", *["[page]"] * 8, "b{=x}")
        self.assert_layout(book, 9, 1, 3, 12)
        self.assertEqual(book.page_of("x"), 9)

    def test_two_rounds(self):
        book = book_of("{@x}", *["[page]"] * 9, "b{=x}")
        # The first block alone is set again, and its lines are as high as before.
        self.assert_layout(book, 10, 2, 4, 13)
        self.assertEqual(book.page_of("x"), 10)
        self.assertEqual(book.page(1), (200, [("text", 0, 0, 0, (49, 48))]))

    def test_labels_to_which_nothing_refers(self):
        self.assert_layout(book_of("a", *["[page]"] * 9, "b{=x}"), 10, 2, 3, 13)
        self.assert_layout(book_of("a", *["[page]"] * 9, "b{!x}"), 10, 2, 3, 13)
        self.assert_layout(book_of("a", *["[page]"] * 9, "# b"), 10, 2, 3, 13)
        self.assert_layout(book_of("a", *["[page]"] * 9, "b{^{=x}}"), 10, 2, 3, 13)
        self.assert_layout(book_of("a", *["[page]"] * 9, "! 5 {=x}"), 10, 2, 3, 12)
        self.assert_layout(book_of("a", *["[page]"] * 9, "b"), 10, 1, 3, 13)

    def test_the_first_place_of_a_label_counts(self):
        self.assert_layout(book_of("a{!x}", *["[page]"] * 9, "b{!x}"), 10, 1, 3, 13)

    def test_labels_of_headings_own_in_a_list_of_contents(self):
        book = book_of("[contents]", *["[page]"] * 9, "# b")
        self.assert_layout(book, 10, 2, 4, 13)
        self.assertEqual(book.page(1)[1], [
            ("text", 0, 0, 0, (49,)), ("text", 20, 0, 0, (98,)), ("text", 80, 0, 0, (49, 48)),
        ])

    def test_rooms_of_three_figures(self):
        words = " ".join(["b"] * 99)
        book = book_of("{@x}", words, "c{=x}", width=10, height=10, gap=0)
        pages, rounds, blocks_set, _ = book.layout()
        self.assertEqual((pages, rounds, blocks_set), (101, 2, 4))
        self.assertEqual(book.page(1)[1], [("text", 0, 0, 0, (49, 48, 49))])

    def test_three_rounds(self):
        # In the second round the first block has another line, so another label comes to page 10.
        book = book_of(GROWING, *["[page]"] * 8, "b{=y}", *["[page]"] * 3, "c{=x}", height=10)
        self.assertEqual(book.layout()[:3], (13, 3, 5))
        self.assertEqual((book.page_of("y"), book.page_of("x")), (10, 13))
        self.assertEqual(book.layout(), (13, 3, 0, 0))

    def test_rooms_never_shrink(self):
        # In the second round the label comes back to page 9.
        book = book_of(SHRINKING, *["[page]"] * 8, "b{=x}", height=20)
        self.assertEqual(book.layout()[:3], (9, 2, 4))
        self.assertEqual(book.page_of("x"), 9)
        # The page number stands in the right of its room.
        texts = [draw for draw in book.page(1)[1] if draw[4] == (57,)]
        before = [draw for draw in book.page(1)[1] if draw[4] == (98,)]
        self.assertEqual(texts[0][1], before[0][1] + 10 + 10)
        self.assertEqual(book.places_of(0), [(1, 0, 1)])

    def test_a_book_without_blocks(self):
        book = Book(style())
        self.assert_layout(book, 0, 1, 0, 0)
        self.assertEqual(book.all_items(), [])
        self.assertEqual(book.all_ends(), [])
        self.assertEqual(book.total_cost(), (0, 0, 0))
        self.assertEqual(book.page_costs(), [])
        self.assertEqual(book.outline(), [])
        self.assertEqual(book.term_index(), [])
        self.assertEqual(book.cost_of([]), (0, 0, 0))
        self.assertIsNone(book.cost_of([(1, 0)]))

    def test_blocks_without_lines(self):
        book = book_of("", "[contents]", ">")
        self.assert_layout(book, 0, 1, 3, 0)

    def test_blank_pages_without_blocks_that_have_lines(self):
        self.assert_layout(book_of("[page]", "[page]"), 2, 1, 1, 2)


class ExampleTest(unittest.TestCase):
    def test_the_example(self):
        book = book_of("# Ways", "the first of all ways{=end}")
        self.assertEqual(book.layout(), (1, 1, 2, 6))
        self.assertEqual(
            book.page_text(1),
            "t 0 0 3 49\nt 20 0 3 87 97 121 115\nt 0 20 0 116 104 101\nt 50 20 0 102 105 114 115 116\n"
            "t 0 30 0 111 102\nt 25 30 0 97 108 108\nt 60 30 0 119 97 121 115",
        )
        self.assertEqual(book.page_of("end"), 1)
        book.replace_block(0, "# Path")
        self.assertEqual(book.layout(), (1, 1, 1, 0))


class BlocksTest(LayoutTest):
    """Which blocks are set again."""

    def test_blocks_that_are_equal(self):
        self.assert_layout(book_of("a", "a", "a"), 1, 1, 1, 6)
        self.assert_layout(book_of("- a", "a", "> a", "- a"), 1, 1, 3, 8)
        # Notes have other numbers, and headings other labels and numbers.
        self.assert_layout(book_of("a{^b}", "a{^b}"), 1, 1, 2, 4)
        self.assert_layout(book_of("# a", "# a"), 1, 1, 2, 4)
        # Not the source counts but what is ready.
        self.assert_layout(book_of("a  *b*", " a *b*", "# x{=x}", "1", "{#x}"), 1, 1, 3, 10)

    def test_changes_of_one_block(self):
        book = book_of("a", "b", "c")
        self.assert_layout(book, 1, 1, 3, 6)
        book.replace_block(1, "d")
        self.assert_layout(book, 1, 1, 1, 0)
        book.move_block(0, 2)
        self.assert_layout(book, 1, 1, 0, 0)
        book.insert_block(1, "a")
        self.assert_layout(book, 1, 1, 0, 3)
        book.insert_block(1, "e")
        self.assert_layout(book, 1, 1, 1, 3)
        book.remove_block(0)
        self.assert_layout(book, 1, 1, 0, 1)

    def test_blocks_that_depend_on_others(self):
        book = book_of("a{^b}", "# c{=x}", "d{#x}", "! 5 e", "|f|", "[contents]")
        book.layout()
        # The numbers of the notes, of the figures and of the tables, but no heading, are others.
        book.insert_block(0, "g{^h}")
        self.assertEqual(book.layout()[2], 2)
        book.insert_block(0, "! 5 i")
        self.assertEqual(book.layout()[2], 2)
        book.insert_block(0, "|j|")
        self.assertEqual(book.layout()[2], 2)
        # The new heading, the other heading, the reference to it, and the list of contents.
        book.insert_block(0, "# k")
        self.assertEqual(book.layout()[2], 4)
        # A label of a heading's own is an other one, even if the number is the same.
        book = book_of("## a", "# b")
        book.layout()
        book.remove_block(0)
        self.assertEqual(book.layout()[2], 1)

    def test_nothing_is_kept_of_layouts_before_the_last_one(self):
        book = book_of("aaa", "b")
        self.assert_layout(book, 1, 1, 2, 4)
        book.replace_block(0, "cc")
        self.assert_layout(book, 1, 1, 1, 0)
        book.undo()
        self.assert_layout(book, 1, 1, 1, 0)

    def test_changes_without_a_layout_between_them(self):
        book = book_of("aaa", "b")
        book.layout()
        book.replace_block(0, "cc")
        book.undo()
        self.assert_layout(book, 1, 1, 0, 0)
        book.redo()
        book.insert_block(0, "aaa")
        self.assertEqual(book.layout()[2], 1)

    def test_blocks_of_all_rounds_are_kept(self):
        book = book_of("{@x}", *["[page]"] * 9, "b{=x}")
        self.assertEqual(book.layout(), (10, 2, 4, 13))
        # In the first round the reference has room for one figure again.
        book.insert_block(11, "c")
        self.assertEqual(book.layout(), (10, 2, 1, 3))
        book.remove_block(1)
        self.assertEqual(book.layout()[:3], (9, 1, 0))
        # Of the last layout nothing with room for two figures is left.
        book.undo()
        self.assertEqual(book.layout()[:3], (10, 2, 1))


class RowsTest(LayoutTest):
    """Which rows are made again."""

    def test_other_items_at_the_beginning(self):
        book = book_of("a", "b", "c")
        self.assert_layout(book, 1, 1, 3, 6)
        book.replace_block(0, "# a")
        self.assert_layout(book, 1, 1, 1, 5)
        book.insert_block(0, "[page]")
        self.assert_layout(book, 2, 1, 1, 7)

    def test_other_items_in_the_middle(self):
        book = book_of("a", "b", "c")
        book.layout()
        # The items of the second block are line, penalty, line and space; c is 3.
        book.replace_block(1, "bbbbbb bbbbbb")
        self.assert_layout(book, 1, 1, 1, 5)
        book.undo()
        self.assert_layout(book, 1, 1, 1, 3)

    def test_other_items_at_the_end(self):
        book = book_of("a", "b", "c")
        book.layout()
        book.replace_block(2, "# c")
        self.assert_layout(book, 1, 1, 1, 1)

    def test_one_list_is_the_beginning_of_the_other(self):
        book = book_of("a", "b", "c")
        book.layout()
        book.insert_block(3, "d")
        self.assert_layout(book, 1, 1, 1, 3)
        book.remove_block(3)
        self.assert_layout(book, 1, 1, 0, 1)
        book.remove_block(0)
        book.remove_block(0)
        self.assert_layout(book, 1, 1, 0, 1)
        book.remove_block(0)
        self.assert_layout(book, 0, 1, 0, 0)
        book.insert_block(0, "c")
        self.assert_layout(book, 1, 1, 1, 2)

    def test_equal_items(self):
        book = book_of("a", "b b", "c")
        book.layout()
        book.move_block(0, 2)
        self.assert_layout(book, 1, 1, 0, 0)
        book.replace_block(1, "*other*")
        self.assert_layout(book, 1, 1, 1, 0)

    def test_rows_of_an_earlier_round_of_the_same_layout(self):
        # Of the first round the rows before the block with the reference can be taken over.
        book = book_of("a", GROWING, *["[page]"] * 9, "b{=x}")
        self.assertEqual(book.layout(), (10, 2, 5, 15 + 14))
        book = book_of("a", *["[page]"] * 9, "b{=x}", GROWING)
        self.assertEqual(book.layout(), (10, 2, 5, 15 + 3))

    def test_the_table_from_which_most_can_be_taken_over(self):
        # The last layout has two rounds; the new items are those of its first round, or of its second one.
        book = book_of(GROWING, *["[page]"] * 9, "b{=x}")
        self.assertEqual(book.layout(), (10, 2, 4, 13 + 14))
        book.remove_block(1)
        self.assertEqual(book.layout(), (9, 1, 0, 2))
        book.undo()
        self.assertEqual(book.layout(), (10, 2, 1, 3 + 14))
        book.insert_block(11, "c")
        self.assertEqual(book.layout(), (10, 2, 1, 3 + 3))

    def test_rows_are_not_taken_over_from_layouts_before_the_last_one(self):
        book = book_of("a", "b", "c")
        book.layout()
        book.insert_block(0, "[page]")
        book.layout()
        book.undo()
        self.assert_layout(book, 1, 1, 0, 6)


if __name__ == "__main__":
    unittest.main()
