"""Point 20 and the section folio/writing.py of the interface."""

import copy
import random
import unittest

from folio.errors import BadText
from folio.reading import read
from folio.writing import tidy, write

SPACE = ("space", 0)
SIGNS = "#->!|["


def run(letters, font=0):
    return ("run", font, letters)


def note(number, font=0):
    return ("note", font, number)


def para(*body, notes=()):
    return (("para",), tuple(body), tuple(notes), ())


def table(heads, *rows, notes=()):
    return (("table", heads), (), tuple(notes), tuple(rows))


class WritingTest(unittest.TestCase):
    def assert_written(self, block, expected):
        with self.subTest(block=block):
            written = write(block)
            self.assertIs(type(written), str)
            self.assertEqual(written, expected)
            self.assertEqual(read(written), block)
            self.assertEqual(tidy(written), written)

    def assert_para(self, expected, *body, notes=()):
        self.assert_written(para(*body, notes=notes), expected)

    def assert_tidy(self, text, expected):
        with self.subTest(text=text):
            self.assertEqual(tidy(text), expected)
            self.assertEqual(tidy(expected), expected)
            self.assertEqual(read(expected), read(text))


class KindsTest(WritingTest):
    def test_the_example(self):
        self.assert_tidy("  #   A  *title*  {=a}", "# A *title* {=a}")

    def test_signs_of_blocks(self):
        for level in (1, 2, 3):
            body = (run("a", 3), ("space", 3), run("b", 3))
            self.assert_written((("head", level), body, (), ()), "#" * level + " a b")
        self.assert_written((("item",), (run("a"),), (), ()), "- a")
        self.assert_written((("quote",), (run("a"),), (), ()), "> a")
        self.assert_written((("figure", 120), (run("a"), SPACE, run("b")), (), ()), "! 120 a b")
        self.assert_written((("figure", 0), (run("7"),), (), ()), "! 0 7")
        self.assert_written((("figure", 10000), (run("a"),), (), ()), "! 10000 a")
        self.assert_written((("contents",), (), (), ()), "[contents]")
        self.assert_written((("page_end",), (), (), ()), "[page]")
        self.assert_para("a b", run("a"), SPACE, run("b"))

    def test_blocks_without_a_text(self):
        for level in (1, 2, 3):
            self.assert_written((("head", level), (), (), ()), "#" * level)
        self.assert_written((("item",), (), (), ()), "-")
        self.assert_written((("quote",), (), (), ()), ">")
        self.assert_written((("figure", 35), (), (), ()), "! 35")
        self.assert_para("")

    def test_texts_that_are_not_empty_without_any_letter(self):
        self.assert_written((("item",), (("label", "x"),), (), ()), "- {=x}")
        self.assert_written((("quote",), (("tie", 0),), (), ()), "> ~")
        self.assert_written((("head", 1), (("line",),), (), ()), "# \\/")

    def test_heights_and_blanks(self):
        self.assert_tidy("!  007\n a ", "! 7 a")
        self.assert_tidy("! 000", "! 0")
        self.assert_tidy("\n##\na", "## a")
        self.assert_tidy(" [page]\n", "[page]")
        self.assert_tidy("\n[contents] ", "[contents]")
        self.assert_tidy("  a \n b  ", "a b")
        self.assert_tidy(" \n ", "")
        self.assert_tidy(">\n", ">")

    def test_signs_at_the_beginning_of_a_paragraph(self):
        for sign in SIGNS:
            self.assert_para("\\" + sign, run(sign))
            self.assert_para("\\" + sign + " a", run(sign), SPACE, run("a"))
            self.assert_para("\\" + sign + sign, run(sign + sign))
            self.assert_para("a" + sign, run("a" + sign))
            self.assert_para("a " + sign, run("a"), SPACE, run(sign))
            self.assert_para("*" + sign + "*", run(sign, 1))
            self.assert_para("`" + sign + "`", run(sign, 2))
            self.assert_para("{=a}" + sign, ("label", "a"), run(sign))
            self.assert_written((("item",), (run(sign),), (), ()), "- " + sign)
            self.assert_written((("quote",), (run(sign),), (), ()), "> " + sign)
            self.assert_written((("head", 2), (run(sign, 3),), (), ()), "## " + sign)
            self.assert_written((("figure", 5), (run(sign),), (), ()), "! 5 " + sign)
            self.assert_para("a{^" + sign + "}", run("a"), note(0), notes=[(run(sign, 4),)])

    def test_other_signs_at_the_beginning_of_a_paragraph(self):
        for sign in "]\"'()+,./0123456789:;<=?@AZ^_az":
            self.assert_para(sign + "b", run(sign + "b"))


class SignsTest(WritingTest):
    def test_signs_with_a_backslash(self):
        for sign in "\\*~{}`":
            self.assert_para("a\\" + sign + "b", run("a" + sign + "b"))
            self.assert_para("*\\" + sign + "*", run(sign, 1))
            self.assert_para("a{^\\" + sign + "}", run("a"), note(0), notes=[(run(sign, 4),)])
            self.assert_written((("head", 1), (run(sign, 3),), (), ()), "# \\" + sign)
            self.assert_written(table(0, ((1, (run(sign),)),)), "| \\" + sign + " |")

    def test_signs_without_a_backslash(self):
        signs = "#->![]|/\"'()+,.:;<=?@^_"
        self.assert_para("a" + signs, run("a" + signs))
        self.assert_para("a*" + signs + "*", run("a"), run(signs, 1))

    def test_all_other_characters(self):
        others = "".join(chr(number) for number in range(33, 127) if chr(number) not in "%\\*~{}`|")
        self.assert_para("a" + others, run("a" + others))
        self.assert_para("`" + others + "`", run(others, 2))
        self.assert_written(table(0, ((1, (run(others), run(others, 2))),)), "| " + others + "`" + others + "` |")
        self.assert_para("a{^" + others + "|}", run("a"), note(0), notes=[(run(others + "|", 4),)])

    def test_signs_in_code(self):
        self.assert_para("`\\\\`", run("\\", 2))
        self.assert_para("`\\``", run("`", 2))
        self.assert_para("`*~{}#->!|[]/`", run("*~{}#->!|[]/", 2))
        self.assert_para("`\\\\/`", run("\\/", 2))
        self.assert_written(table(0, ((1, (run("a|\\`*", 2),)),)), "| `a|\\\\\\`*` |")

    def test_bars(self):
        self.assert_written(table(0, ((1, (run("a|b"),)),)), "| a\\|b |")
        self.assert_written(table(0, ((1, (run("|", 1),)),)), "| *\\|* |")
        self.assert_written(table(0, ((1, (run("|", 2),)),)), "| `|` |")
        notes = [(run("a|", 4), run("|", 1), run("|", 2))]
        self.assert_written(table(0, ((1, (note(0),)),), notes=notes), "| {^a|*|`|`*} |")
        # Behind the note, the text of the cell goes on.
        cell = (run("|"), note(0), run("|"))
        self.assert_written(table(0, ((1, cell),), notes=[(run("|", 4),)]), "| \\|{^|}\\| |")

    def test_tidy_leaves_out_what_is_not_needed(self):
        self.assert_tidy("\\!a\\#\\-\\>\\|\\[\\]\\!", "\\!a#->|[]!")
        self.assert_tidy("`\\*\\~\\{\\}\\|`", "`*~{}|`")
        self.assert_tidy("|\\#\\||", "| #\\| |")
        self.assert_tidy("a**b``c", "abc")
        self.assert_tidy("*a**b*", "*ab*")


class PiecesTest(WritingTest):
    def test_each_piece(self):
        self.assert_para("a b", run("a"), SPACE, run("b"))
        self.assert_para("a~b", run("a"), ("tie", 0), run("b"))
        self.assert_para("a\\/b", run("a"), ("line",), run("b"))
        self.assert_para("a{^b}c", run("a"), note(0), run("c"), notes=[(run("b", 4),)])
        self.assert_para("a{=x}b", run("a"), ("label", "x"), run("b"))
        self.assert_para("a{#x}b", run("a"), ("number", 0, "x"), run("b"))
        self.assert_para("a{@x}b", run("a"), ("page", 0, "x"), run("b"))
        self.assert_para("a{!b c}", run("a"), ("label", "!b c"))
        self.assert_para("{!#*~`[!^}", ("label", "!#*~`[!^"))
        self.assert_para("a \\/ b", run("a"), SPACE, ("line",), SPACE, run("b"))
        self.assert_para("\\/\\/~~", ("line",), ("line",), ("tie", 0), ("tie", 0))

    def test_terms(self):
        self.assert_tidy("a{! b \n c }", "a{!b c}")

    def test_each_piece_in_emphasis(self):
        self.assert_para("*a b*", run("a", 1), ("space", 1), run("b", 1))
        self.assert_para("*~*", ("tie", 1))
        self.assert_para("*{^a}*", note(0, 1), notes=[(run("a", 4),)])
        self.assert_para("*{#x}{@y}*", ("number", 1, "x"), ("page", 1, "y"))
        self.assert_para("a* *b", run("a"), ("space", 1), run("b"))

    def test_each_piece_in_code(self):
        self.assert_para("`a b`", run("a", 2), ("space", 2), run("b", 2))
        self.assert_para("a` `b", run("a"), ("space", 2), run("b"))
        self.assert_para("`a\\/b`", run("a", 2), ("line",), run("b", 2))

    def test_several_notes(self):
        notes = [(run("x", 4),), (), (run("y", 4), ("space", 4), run("z", 1))]
        self.assert_para("a{^x}{^}b{^y *z*}", run("a"), note(0), note(1), run("b"), note(2), notes=notes)

    def test_pieces_in_notes(self):
        notes = [(run("a", 4), ("space", 1), run("b", 2), ("line",), ("label", "x"), ("tie", 4), ("number", 4, "x"))]
        self.assert_para("{^a* `b\\/`{=x}*~{#x}}", note(0), notes=notes)
        notes = [(("page", 1, "x"), ("label", "!t u"))]
        self.assert_para("{^*{@x}{!t u}*}", note(0), notes=notes)


class SwitchingTest(WritingTest):
    def test_emphasis_is_switched_as_late_as_possible(self):
        self.assert_para("a *b* c", run("a"), SPACE, run("b", 1), SPACE, run("c"))
        self.assert_para("*a* b", run("a", 1), SPACE, run("b"))
        self.assert_tidy("* *a", "a")
        self.assert_tidy("a* b *c", "a* b *c")
        self.assert_tidy("a *b *c", "a *b *c")
        self.assert_tidy("a* b* c", "a* b* c")

    def test_code_is_switched_as_late_as_possible(self):
        self.assert_para("a `b` c", run("a"), SPACE, run("b", 2), SPACE, run("c"))
        self.assert_tidy("a `b `c", "a `b `c")
        self.assert_tidy("a` b` c", "a` b` c")

    def test_emphasis_stays_on_in_code(self):
        self.assert_para("*a`b`c*", run("a", 1), run("b", 2), run("c", 1))
        self.assert_para("*a`b`*c", run("a", 1), run("b", 2), run("c"))
        self.assert_para("*a`b`*", run("a", 1), run("b", 2))
        self.assert_para("*a` `*b", run("a", 1), ("space", 2), run("b"))
        self.assert_para("`a`*b*", run("a", 2), run("b", 1))
        self.assert_tidy("`a*b`*c*", "`a*b`*c*")
        self.assert_tidy("*`a`*", "`a`")
        self.assert_tidy("*`a`b*", "`a`*b*")

    def test_before_an_end_of_a_line_nothing_is_switched(self):
        self.assert_para("*a\\/b*", run("a", 1), ("line",), run("b", 1))
        self.assert_para("*a\\/*b", run("a", 1), ("line",), run("b"))
        self.assert_para("*a\\/*", run("a", 1), ("line",))
        self.assert_para("`a\\/`b", run("a", 2), ("line",), run("b"))
        self.assert_para("`a\\/`", run("a", 2), ("line",))
        self.assert_para("*a`b\\/`*", run("a", 1), run("b", 2), ("line",))
        self.assert_tidy("a`\\/b`", "a\\/`b`")
        self.assert_tidy("a*\\/b*", "a\\/*b*")
        self.assert_tidy("*a*\\/b", "*a\\/*b")

    def test_before_a_label_code_alone_is_switched_off(self):
        for label in ("{=x}", "{!x}"):
            piece = ("label", label.strip("{=}"))
            self.assert_para("`a`" + label + "`b`", run("a", 2), piece, run("b", 2))
            self.assert_para("*a" + label + "*b", run("a", 1), piece, run("b"))
            self.assert_para("*a" + label + "b*", run("a", 1), piece, run("b", 1))
            self.assert_para("*a" + label + "*", run("a", 1), piece)
            self.assert_para("*a`b`" + label + "`c`*", run("a", 1), run("b", 2), piece, run("c", 2))
            self.assert_para(label + "*a*", piece, run("a", 1))
            self.assert_tidy("a*" + label + "b*", "a" + label + "*b*")

    def test_before_marks_with_a_font_both_are_switched(self):
        for mark, kind in (("{#x}", "number"), ("{@x}", "page")):
            self.assert_para("*a`b`*" + mark, run("a", 1), run("b", 2), (kind, 0, "x"))
            self.assert_para("*a`b`" + mark + "*", run("a", 1), run("b", 2), (kind, 1, "x"))
            self.assert_para("`a`*" + mark + "*", run("a", 2), (kind, 1, "x"))
        self.assert_para("*a`b`~*", run("a", 1), run("b", 2), ("tie", 1))
        self.assert_para("*a`b`*~", run("a", 1), run("b", 2), ("tie", 0))

    def test_notes_are_texts_of_their_own(self):
        notes = [(run("b", 4), run("c", 1))]
        self.assert_para("*a{^b*c*}d*", run("a", 1), note(0, 1), run("d", 1), notes=notes)
        self.assert_para("*a*{^b*c*}d", run("a", 1), note(0), run("d"), notes=notes)
        self.assert_para("*a{^*b`c`*}*", run("a", 1), note(0, 1), notes=[(run("b", 1), run("c", 2))])
        self.assert_para("`a`{^`b`}`c`", run("a", 2), note(0), run("c", 2), notes=[(run("b", 2),)])

    def test_the_font_of_the_text(self):
        body = (run("a", 3), run("b", 1), run("c", 2), run("d", 3), note(0, 3))
        self.assert_written((("head", 3), body, ((run("e", 1), run("f", 4)),), ()), "### a*b`c`*d{^*e*f}")
        self.assert_written((("quote",), (run("b", 1), run("c")), (), ()), "> *b*c")

    def test_the_end_of_a_text(self):
        self.assert_para("*a`b`*", run("a", 1), run("b", 2))
        self.assert_written(table(0, ((1, (run("a", 1), run("b", 2))), (1, (run("c", 1),)))), "| *a`b`* | *c* |")


class TablesTest(WritingTest):
    def test_rows_and_cells(self):
        self.assert_written(table(0, ((1, (run("a"),)),)), "| a |")
        self.assert_written(table(0, ((1, (run("a"),)), (1, (run("b"), SPACE, run("c"))))), "| a | b c |")
        self.assert_written(table(0, ((1, (run("a"),)),), ((1, (run("b"),)),)), "| a |\n| b |")

    def test_heads(self):
        rows = [((1, (run(letter),)),) for letter in "abc"]
        self.assert_written(table(0, *rows), "| a |\n| b |\n| c |")
        self.assert_written(table(1, *rows), "| a |\n|-\n| b |\n| c |")
        self.assert_written(table(2, *rows), "| a |\n| b |\n|-\n| c |")

    def test_empty_cells(self):
        self.assert_written(table(0, ((1, ()),)), "|  |")
        self.assert_written(table(0, ((1, ()), (1, ()))), "|  |  |")
        self.assert_written(table(1, ((1, ()),), ((1, (run("a"),)),)), "|  |\n|-\n| a |")

    def test_cells_that_span_columns(self):
        rows = (((2, (run("a"),)), (1, (run("b"),))), ((1, (run("c"),)), (2, ())), ((3, (run("d"),)),))
        self.assert_written(table(1, *rows), "|| a | b |\n|-\n| c ||  |\n||| d |")
        self.assert_written(table(0, ((8, ()),)), "||||||||  |")

    def test_cells_that_begin_like_the_line_below_heads(self):
        self.assert_written(table(0, ((1, (run("-"),)),)), "| - |")
        self.assert_tidy("| -a|\n|-\n|b|", "| -a |\n|-\n| b |")

    def test_notes_and_labels_in_cells(self):
        row = ((1, (run("a"), note(0), ("label", "x"))), (1, (note(1, 1), ("label", "!y z"))))
        notes = [(run("b", 4),), (run("c", 1),)]
        self.assert_written(table(0, row, notes=notes), "| a{^b}{=x} | *{^*c*}{!y z}* |")

    def test_tables_are_made_tidy(self):
        self.assert_tidy(" |a||b| \n\n|-  \n  ||c |d|\n", "| a || b |\n|-\n|| c | d |")
        self.assert_tidy("|   |", "|  |")


class TidyTest(WritingTest):
    def test_a_text_with_a_fault(self):
        faults = (
            ("*a", 1, 3, "emphasis is not closed"), ("a\n{^", 2, 3, "note is not closed"),
            ("#a", 1, 2, "space is expected"), ("|a|\n|b", 2, 3, "row is not closed"), ("[pages]", 1, 6, "unknown block"),
        )
        for text, line, column, what in faults:
            with self.subTest(text=text):
                with self.assertRaises(BadText) as caught:
                    tidy(text)
                found = caught.exception
                self.assertEqual((found.line, found.column, found.what), (line, column, what))

    def test_a_block_is_not_changed(self):
        block = para(run("a*"), note(0), notes=[(run("b", 4),)])
        before = copy.deepcopy(block)
        write(block)
        self.assertEqual(block, before)


def some_text(numbers, font, place, notes):
    """Pieces as they can be read, and at most three notes of a block."""
    found = []
    fonts = (font, font, 1, 1, 2)
    for _ in range(numbers.choice((0, 1, 2, 3, 5, 8, 12))):
        kind = numbers.choice(("run", "run", "run", "space", "space", "tie", "line", "label", "term", "number", "page", "note"))
        here = numbers.choice(fonts)
        marked = numbers.choice((font, 1))
        if kind == "run" and not (found and found[-1][:2] == ("run", here)):
            letters = "".join(numbers.choice("ab\\`*~{}|#->![]/^=@ ".replace(" ", "")) for _ in range(numbers.randint(1, 4)))
            found.append(("run", here, letters))
        elif kind == "space" and found and found[-1][0] != "space":
            found.append(("space", here))
        elif kind == "tie":
            found.append(("tie", marked))
        elif kind == "line":
            found.append(("line",))
        elif kind in ("label", "term"):
            found.append(("label", numbers.choice(("x", "a.b-c_D")) if kind == "label" else numbers.choice(("!t", "!u *v"))))
        elif kind in ("number", "page"):
            found.append((kind, marked, "x"))
        elif kind == "note" and place != "note" and len(notes) < 3:
            found.append(("note", marked, len(notes)))
            # A note is numbered where it stands, so no other one comes before its text.
            notes.append(())
            notes[-1] = some_text(numbers, 4, "note", notes)
    while found and found[-1][0] == "space":
        found.pop()
    return tuple(found)


def some_block(numbers):
    notes = []
    kind = numbers.choice((("para",), ("para",), ("head", 2), ("item",), ("quote",), ("figure", 40), ("table", 1)))
    if kind[0] != "table":
        body = some_text(numbers, 3 if kind[0] == "head" else 0, "body", notes)
        return (kind, body, tuple(notes), ())
    rows = []
    for _ in range(numbers.randint(2, 3)):
        spans = numbers.choice(((3,), (1, 2), (2, 1), (1, 1, 1)))
        rows.append(tuple((span, some_text(numbers, 0, "cell", notes)) for span in spans))
    return (kind, (), tuple(notes), tuple(rows))


def written(pieces, font, notes, in_cell=False):
    """The written form of pieces, sign by sign as point 20 lists them."""
    found, code, emphasis = "", False, False
    for piece in pieces:
        kind = piece[0]
        if kind not in ("line", "label"):
            number = piece[1]
            if code and number != 2:
                found, code = found + "`", False
            if emphasis and number == font or not emphasis and number == 1:
                found, emphasis = found + "*", not emphasis
            if not code and number == 2:
                found, code = found + "`", True
        elif kind == "label" and code:
            found, code = found + "`", False
        if kind == "run":
            signs = "\\`" if code else "\\`*~{}|" if in_cell else "\\`*~{}"
            found += "".join("\\" + sign if sign in signs else sign for sign in piece[2])
        elif kind == "note":
            found += "{^" + written(notes[piece[2]], 4, notes) + "}"
        elif kind == "label":
            found += "{" + ("" if piece[1][0] == "!" else "=") + piece[1] + "}"
        else:
            found += {"space": " ", "tie": "~", "line": "\\/", "number": "{#x}", "page": "{@x}"}[kind]
    return found + "`" * code + "*" * emphasis


class ManyBlocksTest(unittest.TestCase):
    def test_many_blocks(self):
        numbers = random.Random(20)
        for _ in range(1500):
            block = some_block(numbers)
            with self.subTest(block=block):
                text = write(block)
                self.assertEqual(read(text), block)
                self.assertEqual(tidy(text), text)
                self.assertEqual(text, self.expected(block))

    def expected(self, block):
        kind, body, notes, rows = block
        if kind[0] == "table":
            lines = [
                "".join("|" * span + " " + written(pieces, 0, notes, True) + " " for span, pieces in row) + "|"
                for row in rows
            ]
            return "\n".join(lines[:1] + ["|-"] + lines[1:])
        text = written(body, 3 if kind[0] == "head" else 0, notes)
        if kind[0] == "para":
            return "\\" + text if text[:1] in tuple(SIGNS) else text
        sign = {"head": "##", "item": "-", "quote": ">", "figure": "! 40"}[kind[0]]
        return (sign + " " + text).rstrip(" ") if text == "" else sign + " " + text

    def test_many_texts(self):
        numbers = random.Random(21)
        for _ in range(3000):
            text = "".join(numbers.choice("ab *`~\\/{}^=#->!|[] \n") for _ in range(numbers.randint(0, 14)))
            try:
                block = read(text)
            except BadText:
                with self.assertRaises(BadText):
                    tidy(text)
                continue
            with self.subTest(text=text):
                self.assertEqual(tidy(text), write(block))
                self.assertEqual(read(tidy(text)), block)
                self.assertEqual(tidy(tidy(text)), tidy(text))


if __name__ == "__main__":
    unittest.main()
