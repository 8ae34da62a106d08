"""The interface: everything stands under its name, with its arguments, in its own file and class."""

import importlib
import inspect
import unittest

FUNCTIONS = {
    "ways": ("add_costs(one, other)", "start_row(key)", "make_row(rows, position, moves)", "chosen(row)"),
    "shaping": ("shape(font, letters)", "glyphs_of(font, letters)"),
    "hyphens": ("check_entries(entries)", "levels(entries, word)", "places(entries, word)"),
    "learning": ("learn(examples)",),
    "items": ("items_of(style, atoms)",),
    "breaking": (
        "may_end(items, position)", "measure(items, start, end)", "badness(change, most)",
        "line_of(items, style, start, end)", "is_one_piece(items, start, end)",
        "line_move(items, style, start, key, end)", "break_lines(items, style)", "lines_cost(items, style, ends)",
    ),
    "setting": (
        "shares(amount, weights)", "set_line(items, style, start, end)", "line_height(style, items, start, end, font)",
        "draw_line(style, line_style, items, start, end, font)",
    ),
    "columns": ("needs(items)", "columns(demands, count, width)"),
    "reading": ("read(text)", "fault(text)"),
    "writing": ("write(block)", "tidy(text)"),
    "blocks": ("set_block(style, ready)",),
    "pages": (
        "page_items(style, blocks)", "page_may_end(items, position)", "page_content(items, start, end)",
        "page_move(style, items, start, first, end, last)", "first_rows()", "page_rows(style, items, rows)",
        "page_ends(rows)", "cost_of_pages(style, items, ends)", "pages_of(style, items, way)",
    ),
    "counting": ("label_numbers(blocks)", "label_fault(blocks)"),
    "ready": ("ready_blocks(blocks, rooms)",),
    "rounds": ("rows_to_take(items, kept)", "pages_of_labels(blocks, items, pages)"),
    "textform": ("page_text(draws)", "read_page(text)"),
}

METHODS = {
    ("fonts", "Font"): (
        "__init__(self, *, line, space, stretch, shrink, figure, other, widths=(), kerns=(), ligatures=())",
        "width_of(self, glyph)", "kern_of(self, left, right)", "row_width(self, glyphs)", "hyphen_width(self)",
    ),
    ("fonts", "Style"): (
        "__init__(self, *, width, height, fonts, patterns=(), indent=0, gap=0, note_gap=0, float_gap=0, cell_gap=0, "
        "rule=0, rag=0, widow=0, orphan=0, wait=0, hyphen_cost=0, tolerance=200, justify=True)",
        "font(self, number)",
    ),
    ("breaking", "LineStyle"): (
        "__init__(self, *, width, first=0, rest=0, justify=True, tolerance=200, rag=0)", "room(self, start)",
    ),
    ("book", "Book"): (
        "__init__(self, style)", "insert_block(self, place, text)", "replace_block(self, place, text)",
        "remove_block(self, place)", "move_block(self, place, target)", "undo(self)", "redo(self)", "sources(self)",
        "layout(self)", "is_laid_out(self)", "page_count(self)", "page(self, number)", "page_text(self, number)",
        "number_of(self, label)", "page_of(self, label)", "outline(self)", "term_index(self)", "all_items(self)",
        "all_ends(self)", "total_cost(self)", "page_costs(self)", "cost_of(self, ends)", "places_of(self, block)",
    ),
}


class InterfaceTest(unittest.TestCase):
    def assert_signature(self, found, expected, module):
        name = expected.split("(")[0]
        with self.subTest(module=module, name=name):
            self.assertTrue(inspect.isfunction(found))
            self.assertEqual(found.__module__, "folio." + module)
            self.assertEqual(name + str(inspect.signature(found)), expected)

    def test_functions(self):
        for module, signatures in FUNCTIONS.items():
            names = vars(importlib.import_module("folio." + module))
            for expected in signatures:
                self.assert_signature(names.get(expected.split("(")[0]), expected, module)

    def test_methods(self):
        for (module, name), signatures in METHODS.items():
            made = vars(importlib.import_module("folio." + module))[name]
            self.assertEqual(made.__module__, "folio." + module)
            for expected in signatures:
                self.assert_signature(vars(made).get(expected.split("(")[0]), expected, module)


if __name__ == "__main__":
    unittest.main()
