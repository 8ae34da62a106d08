"""Points 81 to 83, and what else a book tells of its layout."""

import unittest

from test_book import style
from test_layout import book_of

from folio.pages import cost_of_pages


def laid_out(*texts, **more):
    book = book_of(*texts, **{"width": 200, "height": 100, "gap": 0, "wait": 1, **more})
    book.layout()
    return book


class OutlineTest(unittest.TestCase):
    def assert_titles(self, texts, *titles):
        with self.subTest(texts=texts):
            self.assertEqual([entry[2] for entry in laid_out(*texts).outline()], list(titles))

    def test_levels_numbers_and_pages(self):
        book = laid_out("a", "# b", "[page]", "### c", "## d", "[page]", "e", "# f")
        found = book.outline()
        self.assertIs(type(found), list)
        self.assertEqual(found, [(1, "1", "b", 1), (3, "1.0.1", "c", 2), (2, "1.1", "d", 2), (1, "2", "f", 3)])
        found.clear()
        self.assertEqual(len(book.outline()), 4)
        self.assertEqual(laid_out("a", "|b|").outline(), [])

    def test_each_piece(self):
        self.assert_titles(["# ab *cd* `e f`"], "ab cd e f")
        self.assert_titles(["# a~b\\/c"], "a b c")
        self.assert_titles(["# a{^b}c{=x}d{!t}e"], "acde")
        self.assert_titles(["# a", "! 1 {=x}", "! 1 {=y}", "## b{#y}{#z}", "# c{=z}"], "a", "b22", "c")
        self.assert_titles(["# a{@x}*{@y}*", "[page]", "## b{=x}", "[page]", "c{=y}"], "a23", "b")

    def test_pages_from_10_on(self):
        self.assert_titles(["# a{@x}b", *["[page]"] * 10, "c{=x}"], "a11b")

    def test_spaces_at_the_ends(self):
        self.assert_titles(["# ~a~"], "a")
        self.assert_titles(["# xax", "# *.a.*"], "xax", ".a.")
        self.assert_titles(["# \\/~ a \\/ b ~\\/~"], "a   b")
        self.assert_titles(["# {=x} a {!t} b {^c}"], "a  b")
        self.assert_titles(["# ", "## {=x}", "# ~"], "", "", "")
        self.assert_titles(["# a  \n b"], "a b")

    def test_characters_that_are_marks_elsewhere(self):
        self.assert_titles(["# \\*a\\{ `*b*`"], "*a{ *b*")

    def test_headings_of_several_lines(self):
        book = laid_out("a", "# b\\/c\\/d", height=20)
        # The heading begins on the page of its label.
        self.assertEqual(book.outline(), [(1, "1", "b c d", 1)])
        self.assertEqual(book.places_of(1), [(1, 0, 0), (2, 1, 2)])


class TermsTest(unittest.TestCase):
    def assert_terms(self, texts, *terms, **more):
        with self.subTest(texts=texts):
            found = laid_out(*texts, **more).term_index()
            self.assertIs(type(found), list)
            self.assertTrue(all(type(ranges) is list for _, ranges in found))
            self.assertEqual(found, list(terms))

    def test_neighboring_pages_and_others(self):
        texts = ["a{!t}", "[page]", "b{!t}", "[page]", "c{!t}", "[page]", "d", "[page]", "e{!t}", "[page]", "[page]", "f{!t}"]
        self.assert_terms(texts, ("t", [(1, 3), (5, 5), (7, 7)]))
        self.assert_terms(texts[:1], ("t", [(1, 1)]))
        self.assert_terms(texts[:3], ("t", [(1, 2)]))
        self.assert_terms(texts[2:], ("t", [(1, 2), (4, 4), (6, 6)]))
        self.assert_terms(texts[4:], ("t", [(1, 1), (3, 3), (5, 5)]))

    def test_neighboring_pages_behind_others(self):
        texts = ["a{!t}", "[page]", "[page]", "b{!t}", "[page]", "c{!t}", "[page]", "d{!t}", "[page]", "[page]", "e{!t}"]
        self.assert_terms(texts, ("t", [(1, 1), (3, 5), (7, 7)]))
        texts = ["a{!t}", "[page]", "[page]", "b{!t}", "[page]", "c{!t}", "d{!t}", "[page]", "e{!t}"]
        self.assert_terms(texts, ("t", [(1, 1), (3, 5)]))

    def test_several_places_on_a_page(self):
        self.assert_terms(["a{!t}{!t}b", "c{!t}{^{!t}}", "! 1 d{!t}"], ("t", [(1, 1)]))
        self.assert_terms(["a{!t}{!t}b", "[page]", "c{!t}", "d{!t}"], ("t", [(1, 2)]))

    def test_ascending_order(self):
        texts = ["{!b}{!a b}{!B}", "{!ab}{!1}{!a}", "{!a-b}{!b}"]
        self.assert_terms(
            texts, *[(term, [(1, 1)]) for term in ("1", "B", "a", "a b", "a-b", "ab", "b")]
        )

    def test_each_kind_of_place(self):
        self.assert_terms(
            ["# {!a}", "- {!b}", "|{!c}|x{^{!d}}|", "! 1 {!e}{^{!f}}", "x{^{!g}}"],
            *[(term, [(1, 1)]) for term in "abcdefg"]
        )

    def test_headings_in_lists_of_contents_do_not_count(self):
        self.assert_terms(["[contents]", "[page]", "# a{!t}"], ("t", [(2, 2)]))

    def test_lines_that_are_repeated_do_not_count(self):
        texts = ["|{!h}{^{!n}}|\n|-\n|a|\n|b{!t}|\n|c|\n|d|\n|e|\n|f{!t}|"]
        self.assert_terms(texts, ("h", [(1, 1)]), ("n", [(1, 1)]), ("t", [(2, 2), (4, 4)]), height=40)

    def test_pages_of_floats(self):
        self.assert_terms(["a{!t}", "! 20 b{!t}"], ("t", [(1, 2)]), height=30)

    def test_terms_with_signs(self):
        self.assert_terms(["{!!a}{!  b  c}{!#0}"], ("!a", [(1, 1)]), ("#0", [(1, 1)]), ("b c", [(1, 1)]))

    def test_no_terms(self):
        self.assert_terms(["a{=x}", "# b"])


class PlacesTest(unittest.TestCase):
    def assert_places(self, book, *places):
        found = [book.places_of(number) for number in range(len(places))]
        self.assertEqual(found, list(places))

    def test_blocks_of_several_pages(self):
        book = laid_out("a", "b\\/c\\/d\\/e\\/f", "g", height=20)
        self.assert_places(book, [(1, 0, 0)], [(1, 0, 0), (2, 1, 2), (3, 3, 4)], [(4, 0, 0)])
        book.places_of(1).clear()
        self.assertEqual(len(book.places_of(1)), 3)

    def test_blocks_without_lines(self):
        self.assert_places(laid_out("a", "", "[page]", "[contents]", "b"), [(1, 0, 0)], [], [], [], [(2, 0, 0)])

    def test_lines_that_are_repeated_do_not_count(self):
        book = laid_out("|h|\n|-\n|a|\n|b|", height=30)
        self.assert_places(book, [(1, 0, 1), (2, 2, 2)])

    def test_floats(self):
        book = laid_out("! 20 a\\/b{^c}", "d", height=50)
        self.assert_places(book, [(2, 0, 3)], [(1, 0, 0)])
        book = laid_out("a", "! 10", "! 20", "b", height=30)
        self.assert_places(book, [(1, 0, 0)], [(2, 0, 1)], [(3, 0, 1)], [(1, 0, 0)])


class LabelsTest(unittest.TestCase):
    def test_numbers_and_pages(self):
        book = laid_out("# a{=a}", "b{=b}{^{=c}}", "[page]", "! 1 d{=d}", "|e{=e}|", "## f", "g{=g}{^h}{^i{=i}}")
        found = {label: (book.number_of(label), book.page_of(label)) for label in "abcdegi"}
        self.assertEqual(found, {
            "a": ("1", 1), "b": ("1", 1), "c": ("1", 1), "d": ("1", 2), "e": ("1", 2), "g": ("1.1", 2), "i": ("3", 2),
        })

    def test_a_label_without_a_number(self):
        book = laid_out("a{=x}")
        self.assertEqual((book.number_of("x"), book.page_of("x")), ("", 1))

    def test_labels_of_blocks_of_several_pages(self):
        book = laid_out("a{=x}\\/b{=y}\\/c{=z}", height=10)
        self.assertEqual([book.page_of(label) for label in "xyz"], [1, 2, 3])


class CostsTest(unittest.TestCase):
    def book(self):
        return laid_out("! 10", "a{^n}", "b\\/c", "# d", "e", height=40, note_gap=3, float_gap=2, orphan=7, gap=4)

    def test_items_ends_and_cost(self):
        book = self.book()
        self.assertEqual(book.all_items(), [
            ("float", 0, 20), ("line", 1, 0, 10, 10, 0), ("space", 4, True), ("line", 2, 0, 10, 0, 0), ("penalty", 7),
            ("line", 2, 1, 10, 0, 0), ("space", 4, True), ("line", 3, 0, 10, 0, 0), ("space", 4, False),
            ("line", 4, 0, 10, 0, 0), ("space", 4, True),
        ])
        self.assertEqual(book.all_ends()[-1][0], 11)
        self.assertEqual(book.cost_of(book.all_ends()), book.total_cost())

    def test_page_costs(self):
        book = laid_out("! 10", "a", "b{^n}\\/c", "# d", height=43, note_gap=3, float_gap=2, wait=1000)
        self.assertEqual(book.all_ends(), [(3, 1), (9, 1)])
        self.assertEqual(book.total_cost(), (0, 0, 625))
        found = book.page_costs()
        self.assertIs(type(found), list)
        self.assertEqual(found, [(0, 3, 0, 1, 10, 0, 0, 22, (0, 0, 625)), (3, 9, 1, 1, 30, 0, 13, 0, (0, 0, 0))])

    def test_parts_of_pages(self):
        table = "|h{^n}|\n|-\n|a|\n|b{^o}|"
        book = laid_out("x", "[page]", table, height=43, note_gap=3)
        self.assertEqual([costs[:8] for costs in book.page_costs()], [
            (0, 3, 0, 0, 10, 0, 0, 0), (3, 7, 0, 0, 30, 0, 13, 0), (7, 9, 0, 0, 10, 20, 13, 0),
        ])
        self.assertEqual([costs[8] for costs in book.page_costs()], [(0, 0, 0), (0, 0, 0), (0, 0, 0)])

    def test_pages_of_floats(self):
        book = laid_out("a", "! 10", "! 20", height=30, float_gap=5)
        self.assertEqual(book.page_costs(), [
            (0, 4, 0, 0, 10, 0, 0, 0, (0, 0, 2)), (4, 4, 0, 1, 0, 0, 0, 25, None), (4, 4, 1, 2, 0, 0, 0, 35, None),
        ])

    def test_blank_pages(self):
        book = laid_out("[page]", "a")
        self.assertEqual(book.page_costs(), [
            (0, 1, 0, 0, 0, 0, 0, 0, (0, 1, 0)), (1, 3, 0, 0, 10, 0, 0, 0, (0, 0, 0)),
        ])

    def test_costs_of_other_ways(self):
        book = laid_out("a", "b", "c", height=20)
        self.assertEqual(book.all_ends(), [(4, 0), (6, 0)])
        self.assertEqual(book.total_cost(), (0, 0, 0))
        self.assertEqual(book.cost_of([(4, 0), (6, 0)]), (0, 0, 0))
        self.assertEqual(book.cost_of([(2, 0), (6, 0)]), (0, 0, 2500))
        self.assertEqual(book.cost_of([(2, 0), (4, 0), (6, 0)]), (0, 0, 5000))
        for ends in ([], [(4, 0)], [(6, 0)], [(3, 0), (6, 0)], [(4, 1), (6, 1)], [(7, 0)]):
            self.assertIsNone(book.cost_of(ends))

    def test_costs_are_those_of_the_items(self):
        book = self.book()
        styled = style(width=200, height=40, gap=4, note_gap=3, float_gap=2, orphan=7, wait=1)
        for ends in ([(3, 1), (7, 1), (11, 1)], [(5, 0), (11, 1)], [(11, 1)], [(11, 0)]):
            self.assertEqual(book.cost_of(ends), cost_of_pages(styled, book.all_items(), ends))

    def test_lists_are_not_the_books(self):
        book = self.book()
        before = (book.all_items(), book.all_ends(), book.page_costs(), book.total_cost())
        book.all_items().clear()
        book.all_ends().clear()
        book.page_costs().clear()
        self.assertEqual((book.all_items(), book.all_ends(), book.page_costs(), book.total_cost()), before)
        self.assertEqual(book.layout()[2:], (0, 0))


if __name__ == "__main__":
    unittest.main()
