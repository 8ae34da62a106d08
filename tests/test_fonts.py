"""Points 21 to 23 and the section folio/fonts.py of the interface."""

import itertools
import unittest

from folio.errors import BadEntry, BadFont, BadStyle, FolioError
from folio.fonts import Font, Style

FIGURES = range(48, 58)


def font(**more):
    numbers = {"line": 10, "space": 10, "stretch": 10, "shrink": 5, "figure": 9, "other": 20}
    return Font(**{**numbers, **more})


def style(**more):
    numbers = {"width": 100, "height": 60, "fonts": [font()]}
    return Style(**{**numbers, **more})


class FontTest(unittest.TestCase):
    def assert_bad(self, **more):
        with self.subTest(**more):
            with self.assertRaises(BadFont):
                font(**more)

    def test_attributes(self):
        made = Font(
            line=11, space=12, stretch=13, shrink=4, figure=15, other=16,
            widths=[(97, 17)], kerns=[(97, 98, 3)], ligatures=[(97, 98, 200)],
        )
        self.assertEqual(
            (made.line, made.space, made.stretch, made.shrink, made.figure, made.other), (11, 12, 13, 4, 15, 16)
        )
        self.assertEqual(made.widths, ((97, 17),))
        self.assertEqual(made.kerns, ((97, 98, 3),))
        self.assertEqual(made.ligatures, ((97, 98, 200),))

    def test_defaults(self):
        self.assertEqual((font().widths, font().kerns, font().ligatures), ((), (), ()))

    def test_numbers_are_passed_by_keyword(self):
        with self.assertRaises(TypeError):
            Font(10, 10, 10, 5, 10, 10)
        with self.assertRaises(TypeError):
            Style(100, 60, [font()])

    def test_lists_and_tuples(self):
        for outer, inner in itertools.product((list, tuple), (list, tuple)):
            made = font(
                widths=outer([inner((97, 17)), inner((98, 18))]),
                kerns=outer([inner((97, 98, 3)), inner((98, 97, 2))]),
                ligatures=outer([inner((97, 98, 200)), inner((98, 98, 201))]),
            )
            self.assertEqual(made.widths, ((97, 17), (98, 18)))
            self.assertEqual(made.kerns, ((97, 98, 3), (98, 97, 2)))
            self.assertEqual(made.ligatures, ((97, 98, 200), (98, 98, 201)))
            for entries in (made.widths, made.kerns, made.ligatures):
                self.assertIs(type(entries), tuple)
                self.assertEqual({type(entry) for entry in entries}, {tuple})

    def test_lists_are_not_kept_and_not_changed(self):
        widths, kerns, ligatures = [[97, 17]], [[97, 98, 3]], [[97, 98, 200]]
        made = font(widths=widths, kerns=kerns, ligatures=ligatures)
        self.assertEqual((widths, kerns, ligatures), ([[97, 17]], [[97, 98, 3]], [[97, 98, 200]]))
        widths[0][1] = 1
        kerns[0][2] = 1
        ligatures[0][2] = 1
        for entries in (widths, kerns, ligatures):
            entries.append(entries[0])
        self.assertEqual((made.width_of(97), made.kern_of(97, 98)), (17, 3))
        self.assertEqual(made.widths, ((97, 17),))
        self.assertEqual(made.kerns, ((97, 98, 3),))
        self.assertEqual(made.ligatures, ((97, 98, 200),))

    def test_widths(self):
        made = font(widths=[(97, 5), (9999, 6), (0, 7), (97, 8), (98, 0)])
        self.assertEqual([made.width_of(glyph) for glyph in (97, 9999, 0, 98, 99)], [5, 6, 7, 0, 20])

    def test_widths_of_figures(self):
        made = font(widths=[(47, 5), (58, 6)])
        self.assertEqual([made.width_of(glyph) for glyph in FIGURES], [9] * 10)
        self.assertEqual((made.width_of(47), made.width_of(58)), (5, 6))
        self.assertEqual((font().width_of(47), font().width_of(58)), (20, 20))

    def test_kerns(self):
        made = font(kerns=[(97, 98, 3), (97, 98, 4), (98, 97, 0), (98, 97, 5)])
        pairs = ((97, 98), (98, 97), (97, 97), (98, 98), (48, 49))
        self.assertEqual([made.kern_of(*pair) for pair in pairs], [3, 0, 0, 0, 0])

    def test_rows(self):
        made = font(widths=[(97, 10), (98, 11)], kerns=[(97, 98, 3), (98, 97, 2), (97, 97, 1)])
        self.assertEqual(made.row_width(()), 0)
        self.assertEqual(made.row_width([]), 0)
        self.assertEqual(made.row_width((97,)), 10)
        self.assertEqual(made.row_width((97, 98)), 18)
        self.assertEqual(made.row_width((97, 98, 97, 97)), 10 + 11 + 10 + 10 - 3 - 2 - 1)
        self.assertEqual(made.row_width([97, 98, 48, 97, 99]), 10 + 11 + 9 + 10 + 20 - 3)

    def test_rows_of_three_equal_glyphs(self):
        self.assertEqual(font(kerns=[(97, 97, 20)]).row_width((97, 97, 97)), 20)

    def test_hyphens(self):
        self.assertEqual(font().hyphen_width(), 20)
        self.assertEqual(font(widths=[(45, 6), (45, 7)]).hyphen_width(), 6)

    def test_bounds_of_numbers(self):
        bounds = {"line": (1, 1000), "space": (5, 1000), "stretch": (0, 50), "figure": (0, 1000), "other": (0, 1000)}
        for name, (least, greatest) in bounds.items():
            for number in (least, greatest):
                self.assertEqual(getattr(font(**{name: number}), name), number)
            self.assert_bad(**{name: least - 1})
            self.assert_bad(**{name: greatest + 1})
        self.assertEqual(font(space=0, shrink=0).space, 0)
        self.assert_bad(space=-1, shrink=0)

    def test_shrink(self):
        for space, shrink in ((0, 0), (10, 10), (10, 0), (50, 50), (60, 50)):
            self.assertEqual(font(space=space, shrink=shrink).shrink, shrink)
        for space, shrink in ((0, 1), (10, 11), (10, -1), (0, -1), (50, 51), (60, 51)):
            self.assert_bad(space=space, shrink=shrink)

    def test_bounds_of_widths(self):
        self.assertEqual(font(widths=[(97, 0), (98, 1000)]).width_of(98), 1000)
        self.assert_bad(widths=[(97, -1)])
        self.assert_bad(widths=[(97, 1001)])
        self.assert_bad(widths=[(97, 5), (97, 1001)])

    def test_bounds_of_kerns(self):
        made = font(widths=[(97, 1000), (98, 0)], kerns=[(97, 97, 1000), (98, 97, 0), (99, 97, 20)])
        self.assertEqual([made.kern_of(left, 97) for left in (97, 98, 99)], [1000, 0, 20])
        self.assert_bad(kerns=[(97, 97, -1)])
        self.assert_bad(kerns=[(97, 97, 21)])
        self.assert_bad(kerns=[(97, 97, 2), (97, 97, 21)])
        self.assert_bad(widths=[(97, 1000)], kerns=[(97, 97, 1001)])
        self.assert_bad(widths=[(97, 10)], kerns=[(97, 98, 11)])
        self.assert_bad(widths=[(97, 10), (97, 11)], kerns=[(97, 98, 11)])
        self.assert_bad(widths=[(98, 0)], kerns=[(98, 97, 1)])

    def test_the_width_of_the_right_glyph_does_not_matter(self):
        made = font(widths=[(97, 10), (98, 1)], kerns=[(97, 98, 10)])
        self.assertEqual(made.row_width((97, 98)), 1)

    def test_numbers_of_entries(self):
        counts = {"widths": (100, (97, 5)), "kerns": (40, (97, 98, 5)), "ligatures": (20, (97, 98, 200))}
        for name, (most, entry) in counts.items():
            self.assertEqual(len(getattr(font(**{name: [entry] * most}), name)), most)
            self.assert_bad(**{name: [entry] * (most + 1)})
            self.assert_bad(**{name: (entry,) * (most + 1)})

    def test_no_figures_are_listed(self):
        for figure in FIGURES:
            self.assert_bad(widths=[(97, 5), (figure, 9)])
            self.assert_bad(kerns=[(figure, 97, 0)])
            self.assert_bad(kerns=[(97, 98, 1), (97, figure, 0)])
            self.assert_bad(ligatures=[(figure, 97, 200)])
            self.assert_bad(ligatures=[(97, 98, 200), (97, figure, 200)])
            self.assert_bad(ligatures=[(97, 98, figure)])

    def test_numbers_beside_the_figures_are_listed(self):
        for glyph in (47, 58, 0, 9999):
            made = font(widths=[(glyph, 9)], kerns=[(glyph, glyph, 9)], ligatures=[(glyph, glyph, glyph)])
            self.assertEqual(made.row_width((glyph, glyph)), 9)

    def test_base_class_of_the_error(self):
        with self.assertRaises(FolioError):
            font(line=0)


class StyleTest(unittest.TestCase):
    def assert_bad(self, **more):
        with self.subTest(**more):
            with self.assertRaises(BadStyle):
                style(**more)

    def test_defaults(self):
        made = style()
        names = ("indent", "gap", "note_gap", "float_gap", "cell_gap", "rule", "rag")
        names += ("widow", "orphan", "wait", "hyphen_cost")
        self.assertEqual([getattr(made, name) for name in names], [0] * 11)
        self.assertEqual((made.tolerance, made.justify, made.patterns), (200, True, ()))

    def test_attributes(self):
        names = ("indent", "gap", "note_gap", "float_gap", "cell_gap", "rule", "rag")
        names += ("widow", "orphan", "wait", "hyphen_cost", "tolerance")
        numbers = {name: 20 + index for index, name in enumerate(names)}
        made = style(width=300, height=400, justify=False, patterns=["a1b"], fonts=[font(line=40)], **numbers)
        self.assertEqual({name: getattr(made, name) for name in names}, numbers)
        self.assertEqual((made.width, made.height, made.justify), (300, 400, False))
        self.assertEqual(made.patterns, ("a1b",))

    def test_bounds_of_numbers(self):
        names = ("gap", "note_gap", "float_gap", "cell_gap", "rule", "rag")
        names += ("widow", "orphan", "wait", "hyphen_cost", "tolerance")
        for name in names:
            for number in (0, 10000):
                self.assertEqual(getattr(style(**{name: number}), name), number)
            self.assert_bad(**{name: -1})
            self.assert_bad(**{name: 10001})

    def test_width_and_height(self):
        fonts = [font(line=1000)]
        for number in (1, 10000):
            self.assertEqual(style(width=number).width, number)
            self.assertEqual(style(height=number, fonts=fonts).height, number)
        for number in (-1, 0, 10001):
            self.assert_bad(width=number)
            self.assert_bad(height=number, fonts=fonts)

    def test_indent(self):
        self.assertEqual(style(width=1, indent=0).indent, 0)
        self.assertEqual(style(width=100, indent=99).indent, 99)
        self.assertEqual(style(width=10000, indent=9999).indent, 9999)
        self.assert_bad(indent=-1)
        self.assert_bad(width=100, indent=100)
        self.assert_bad(width=100, indent=101)
        self.assert_bad(width=1, indent=1)
        self.assert_bad(width=10000, indent=10000)

    def test_height_against_the_lines_of_fonts(self):
        self.assertEqual(style(height=1200, fonts=[font(line=10)]).height, 1200)
        self.assert_bad(height=1201, fonts=[font(line=10)])
        self.assertEqual(style(height=120, fonts=[font(line=1)]).height, 120)
        self.assert_bad(height=121, fonts=[font(line=1)])
        for lines in itertools.permutations((10, 11, 12)):
            fonts = [font(line=line) for line in lines]
            self.assertEqual(style(height=1200, fonts=fonts).height, 1200)
            self.assert_bad(height=1201, fonts=fonts)

    def test_numbers_of_fonts(self):
        for count in (1, 2, 5):
            self.assertEqual(len(style(fonts=[font()] * count).fonts), count)
        for count in (0, 6):
            self.assert_bad(fonts=[font()] * count)
            self.assert_bad(fonts=(font(),) * count)

    def test_numbers_of_patterns(self):
        self.assertEqual(style(patterns=["a1b"] * 60).patterns, ("a1b",) * 60)
        self.assert_bad(patterns=["a1b"] * 61)
        self.assert_bad(patterns=["?"] * 61)

    def test_bad_entries(self):
        for at in range(5):
            patterns = ["a1b", ".c", "ta-ble", "2d", "e"]
            patterns[at] = "a.b"
            with self.assertRaises(BadEntry) as caught:
                style(patterns=patterns + ["--", ""])
            self.assertEqual(caught.exception.at, at)

    def test_a_bad_style_comes_before_a_bad_entry(self):
        for more in ({"gap": -1}, {"width": 0}, {"indent": 100}, {"fonts": []}, {"height": 1201}, {"rag": 10001}):
            self.assert_bad(patterns=["", "--"], **more)

    def test_fonts_by_number(self):
        fonts = [font(line=10 + index) for index in range(5)]
        for count in range(1, 6):
            made = style(fonts=fonts[:count])
            self.assertEqual(made.fonts, tuple(fonts[:count]))
            for number in range(count):
                self.assertIs(made.font(number), fonts[number])
            for number in range(count, 7):
                self.assertIs(made.font(number), fonts[0])

    def test_lists_are_not_kept_and_not_changed(self):
        one, other = font(), font()
        fonts, patterns = [one, other], ["a1b", "c1d"]
        made = style(fonts=fonts, patterns=patterns)
        self.assertEqual((fonts, patterns), ([one, other], ["a1b", "c1d"]))
        fonts[0] = None
        fonts.append(None)
        patterns[1] = "?"
        patterns.clear()
        self.assertEqual(made.fonts, (one, other))
        self.assertIs(made.font(0), one)
        self.assertIs(made.font(2), one)
        self.assertEqual(made.patterns, ("a1b", "c1d"))
        self.assertIs(type(made.fonts), tuple)
        self.assertIs(type(made.patterns), tuple)

    def test_base_class_of_the_error(self):
        with self.assertRaises(FolioError):
            style(width=0)

    def test_methods_stand_in_the_classes(self):
        self.assertLessEqual({"width_of", "kern_of", "row_width", "hyphen_width"}, set(vars(Font)))
        self.assertIn("font", vars(Style))


if __name__ == "__main__":
    unittest.main()
