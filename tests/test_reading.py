"""Points 8 to 17 and the section folio/reading.py of the interface; faults are in test_faults.py."""

import random
import string
import unittest

from folio.errors import BadText
from folio.reading import fault, read

SPACE = ("space", 0)


def run(letters, font=0):
    return ("run", font, letters)


def label(name):
    return ("label", name)


class ReadingTest(unittest.TestCase):
    def assert_block(self, text, kind, body=(), notes=(), rows=()):
        with self.subTest(text=text):
            self.assertEqual(read(text), (kind, tuple(body), tuple(notes), tuple(rows)))
            self.assertIsNone(fault(text))

    def assert_para(self, text, *body, notes=()):
        self.assert_block(text, ("para",), body, notes)

    def assert_fault(self, text, line, column, what):
        with self.subTest(text=text):
            self.assertEqual(fault(text), (line, column, what))


class KindsTest(ReadingTest):
    def test_the_example(self):
        body = (run("Say"), SPACE, run("hi", 1), ("note", 0, 0))
        self.assert_block("Say *hi*{^note}", ("para",), body, ((run("note", 4),),))

    def test_paragraphs(self):
        self.assert_para("")
        self.assert_para(" \n\n ")
        self.assert_para("a", run("a"))
        self.assert_para("\n  a b\n", run("a"), SPACE, run("b"))
        self.assert_para("0 ]", run("0"), SPACE, run("]"))

    def test_signs_that_are_no_signs_of_blocks(self):
        self.assert_para("\\# a", run("#"), SPACE, run("a"))
        self.assert_para("\\[page]", run("[page]"))
        self.assert_para("*a*", run("a", 1))
        self.assert_para("`#` a", run("#", 2), SPACE, run("a"))
        self.assert_para("{=a}# a", label("a"), run("#"), SPACE, run("a"))
        self.assert_para("a # - > ! | [page]", *self.words("a # - > ! | [page]"))

    def words(self, text):
        pieces = []
        for word in text.split():
            pieces += [SPACE, run(word)]
        return pieces[1:]

    def test_headings(self):
        for level in (1, 2, 3):
            signs = "#" * level
            body = (run("a", 3), ("space", 3), run("b", 3))
            for text in (f"{signs} a b", f" \n{signs} \n a\nb ", f"{signs}\na b"):
                self.assert_block(text, ("head", level), body)
            for text in (signs, signs + " ", signs + "\n", f"  {signs}  "):
                self.assert_block(text, ("head", level))
        self.assert_block("# # a", ("head", 1), (run("#", 3), ("space", 3), run("a", 3)))

    def test_items_and_quotations(self):
        for sign, kind in (("-", "item"), (">", "quote")):
            for text in (f"{sign} a b", f"\n {sign}\na b\n", f"{sign}  a  b"):
                self.assert_block(text, (kind,), (run("a"), SPACE, run("b")))
            for text in (sign, sign + " ", sign + "\n", f"\n{sign}\n"):
                self.assert_block(text, (kind,))
            self.assert_block(f"{sign} {sign} #", (kind,), (run(sign), SPACE, run("#")))

    def test_figures(self):
        for text in ("! 50 a b", " !  50  a b", "!\n50\na b", "! 0050 a b", "! " + "0" * 30 + "50 a b"):
            self.assert_block(text, ("figure", 50), (run("a"), SPACE, run("b")))
        for text in ("! 50", "! 50 ", "\n!\n50\n"):
            self.assert_block(text, ("figure", 50))
        for text, height in (("! 0", 0), ("! 000", 0), ("! 10000", 10000), ("! 0010000 ", 10000), ("! 9999", 9999)):
            self.assert_block(text, ("figure", height))
        self.assert_block("! 5 6", ("figure", 5), (run("6"),))

    def test_contents_and_ends_of_pages(self):
        for word, kind in (("[contents]", "contents"), ("[page]", "page_end")):
            for text in (word, f" {word}", f"\n\n{word}", f"{word} ", f" {word} \n\n "):
                self.assert_block(text, (kind,))

    def test_the_fonts_of_texts(self):
        text = "a *b* `c`~d{^e *f* `g`~h}"
        note = (run("e", 4), ("space", 4), run("f", 1), ("space", 4), run("g", 2), ("tie", 4), run("h", 4))
        for sign, kind, font in (
            ("", ("para",), 0), ("# ", ("head", 1), 3), ("## ", ("head", 2), 3), ("### ", ("head", 3), 3),
            ("- ", ("item",), 0), ("> ", ("quote",), 0), ("! 5 ", ("figure", 5), 0),
        ):
            body = (
                run("a", font), ("space", font), run("b", 1), ("space", font), run("c", 2), ("tie", font),
                run("d", font), ("note", font, 0),
            )
            self.assert_block(sign + text, kind, body, (note,))
        row = ((1, (run("a"), SPACE, run("b", 1), SPACE, run("c", 2), ("tie", 0), run("d"), ("note", 0, 0))),)
        self.assert_block(f"|{text}|", ("table", 0), (), (note,), (row,))


class PiecesTest(ReadingTest):
    def test_runs(self):
        self.assert_para("ab", run("ab"))
        self.assert_para("a,b.-c'\"1#|>!]^=@", run("a,b.-c'\"1#|>!]^=@"))

    def test_blanks(self):
        for blanks in (" ", "\n", "  ", " \n ", "\n\n\n"):
            self.assert_para(f"a{blanks}b", run("a"), SPACE, run("b"))
        self.assert_para("  a  ", run("a"))

    def test_blanks_around_switches(self):
        self.assert_para("a *b* c", run("a"), SPACE, run("b", 1), SPACE, run("c"))
        self.assert_para("a* b *c", run("a"), ("space", 1), run("b", 1), ("space", 1), run("c"))
        self.assert_para("a * b*", run("a"), SPACE, run("b", 1))
        self.assert_para("a* * b", run("a"), ("space", 1), run("b"))
        self.assert_para("a * * b", run("a"), SPACE, run("b"))
        self.assert_para("a ` ` b", run("a"), SPACE, run("b"))
        self.assert_para("a` ` b", run("a"), ("space", 2), run("b"))
        self.assert_para("a *` `* b", run("a"), SPACE, run("b"))
        self.assert_para("a*` `* b", run("a"), ("space", 2), run("b"))
        self.assert_para("*a *b", run("a", 1), ("space", 1), run("b"))
        self.assert_para("`a `b", run("a", 2), ("space", 2), run("b"))

    def test_blanks_at_the_ends(self):
        self.assert_para("* *a", run("a"))
        self.assert_para("* a*", run("a", 1))
        self.assert_para(" ` ` * *")
        self.assert_para("a * *", run("a"))
        self.assert_para("*a *", run("a", 1))
        self.assert_para("`a `", run("a", 2))
        self.assert_para("a ` ` * * ", run("a"))

    def test_blanks_beside_other_pieces(self):
        self.assert_para("{=a} b", label("a"), SPACE, run("b"))
        self.assert_para("b {=a}", run("b"), SPACE, label("a"))
        self.assert_para("a {=b} c", run("a"), SPACE, label("b"), SPACE, run("c"))
        self.assert_para("a \\/ b", run("a"), SPACE, ("line",), SPACE, run("b"))
        self.assert_para(" \\/ ", ("line",))
        self.assert_para("a ~ b", run("a"), SPACE, ("tie", 0), SPACE, run("b"))
        self.assert_para("a *{=b} *c", run("a"), SPACE, label("b"), ("space", 1), run("c"))

    def test_emphasis(self):
        self.assert_para("a*b*c", run("a"), run("b", 1), run("c"))
        self.assert_para("*a*", run("a", 1))
        self.assert_para("**")
        self.assert_para("*a~b*", run("a", 1), ("tie", 1), run("b", 1))

    def test_emphasis_and_code_that_are_switched_back(self):
        self.assert_para("a**b", run("ab"))
        self.assert_para("a``b", run("ab"))
        self.assert_para("a*``*b", run("ab"))
        self.assert_para("*a**b*", run("ab", 1))
        self.assert_para("`a``b`", run("ab", 2))
        self.assert_para("`a`*`b`*", run("ab", 2))
        self.assert_para("*a`b`c*", run("a", 1), run("b", 2), run("c", 1))

    def test_runs_that_are_not_one(self):
        self.assert_para("a b", run("a"), SPACE, run("b"))
        self.assert_para("a{=x}b", run("a"), label("x"), run("b"))
        self.assert_para("a~b", run("a"), ("tie", 0), run("b"))
        self.assert_para("a\\/b", run("a"), ("line",), run("b"))
        self.assert_para("a{^x}b", run("a"), ("note", 0, 0), run("b"), notes=((run("x", 4),),))

    def test_code(self):
        self.assert_para("`*~{}#|[]^=@!>-`", run("*~{}#|[]^=@!>-", 2))
        self.assert_para("`{=a} {^b}`", run("{=a}", 2), ("space", 2), run("{^b}", 2))
        self.assert_para("`a\nb`", run("a", 2), ("space", 2), run("b", 2))
        self.assert_para("*`*`*", run("*", 2))
        self.assert_para("*a`b`c*d", run("a", 1), run("b", 2), run("c", 1), run("d"))

    def test_ends_of_lines(self):
        self.assert_para("\\/", ("line",))
        self.assert_para("\\/\\/", ("line",), ("line",))
        self.assert_para("a\\/b", run("a"), ("line",), run("b"))
        self.assert_para("`a\\/b`", run("a", 2), ("line",), run("b", 2))

    def test_each_character_behind_a_backslash(self):
        good = "*\\~{}#->!|[]`"
        for number in range(32, 127):
            sign = chr(number)
            if sign in good:
                self.assert_para("\\" + sign, run(sign))
                self.assert_para(f"`\\{sign}`", run(sign, 2))
                self.assert_para(f"a\\{sign}b", run(f"a{sign}b"))
                self.assert_block(f"# \\{sign}", ("head", 1), (run(sign, 3),))
                self.assert_block(f"|\\{sign}|", ("table", 0), rows=(((1, (run(sign),)),),))
            elif sign not in "/%":
                self.assert_fault("\\" + sign, 1, 2, "character cannot be escaped")
                self.assert_fault(f"`\\{sign}`", 1, 3, "character cannot be escaped")
        self.assert_fault("\\\n", 1, 2, "character cannot be escaped")

    def test_labels_and_references(self):
        self.assert_para("{=a}", label("a"))
        self.assert_para("{#a}", ("number", 0, "a"))
        self.assert_para("{@a}", ("page", 0, "a"))
        self.assert_para("*{=a}{#a}{@a}*", label("a"), ("number", 1, "a"), ("page", 1, "a"))
        self.assert_block("# {#a}{@a}", ("head", 1), (("number", 3, "a"), ("page", 3, "a")))
        self.assert_para("{^{=a}{#a}{@a}}", ("note", 0, 0), notes=((label("a"), ("number", 4, "a"), ("page", 4, "a")),))

    def test_names(self):
        for name in ("a", "Z", "0", "-", "_", ".", "..", "a-b_c.D9", "x" * 20, string.digits * 2):
            self.assert_para(f"{{={name}}}", label(name))
            self.assert_para(f"{{#{name}}}", ("number", 0, name))
            self.assert_para(f"{{@{name}}}", ("page", 0, name))
        for sign in string.ascii_letters + string.digits + "-_.":
            self.assert_para(f"{{=a{sign}}}", label("a" + sign))

    def test_terms(self):
        self.assert_para("{!a}", label("!a"))
        self.assert_para("{!a b}", label("!a b"))
        for text in ("{! a  b }", "{!\na\nb\n}", "{! \n a \n\n b \n}"):
            self.assert_para(text, label("!a b"))
        self.assert_para("{!*~`#=^@!-[]}", label("!*~`#=^@!-[]"))
        self.assert_para("{!a}{!a}", label("!a"), label("!a"))
        self.assert_para("*{!*}*", label("!*"))

    def test_the_longest_terms(self):
        self.assert_para("{!" + "x" * 40 + "}", label("!" + "x" * 40))
        self.assert_para("{!  " + "x" * 40 + " \n }", label("!" + "x" * 40))
        words = "ab " * 13 + "c"
        self.assertEqual(len(words), 40)
        self.assert_para("{!" + words + "}", label("!" + words))
        self.assert_para("{! " + words.replace(" ", "  \n") + " }", label("!" + words))

    def test_notes(self):
        self.assert_para("{^}", ("note", 0, 0), notes=((),))
        self.assert_para("{^ }", ("note", 0, 0), notes=((),))
        self.assert_para("a{^ b }c", run("a"), ("note", 0, 0), run("c"), notes=((run("b", 4),),))
        self.assert_para("a {^b} c", run("a"), SPACE, ("note", 0, 0), SPACE, run("c"), notes=((run("b", 4),),))
        note = (run("a", 4), ("space", 4), run("b", 1), ("line",), run("}", 2), label("c"), ("tie", 4), run("|", 4))
        self.assert_para("{^a *b*\\/`}`{=c}~|}", ("note", 0, 0), notes=(note,))

    def test_emphasis_around_notes(self):
        self.assert_para("*a{^b}c*", run("a", 1), ("note", 1, 0), run("c", 1), notes=((run("b", 4),),))
        self.assert_para("*a{^*b*}c*", run("a", 1), ("note", 1, 0), run("c", 1), notes=((run("b", 1),),))
        self.assert_para("*a{^b*c*}*d", run("a", 1), ("note", 1, 0), run("d"), notes=((run("b", 4), run("c", 1)),))

    def test_several_notes(self):
        body = [("note", 0, number) for number in range(8)]
        notes = [(run(letter, 4),) for letter in "abcdefgh"]
        self.assert_para("".join(f"{{^{letter}}}" for letter in "abcdefgh"), *body, notes=notes)

    def test_longer_texts_than_600(self):
        self.assert_para("a" * 700, run("a" * 700))


class TablesTest(ReadingTest):
    def assert_table(self, text, *rows, heads=0, notes=()):
        self.assert_block(text, ("table", heads), (), notes, rows)

    def cell(self, letters, columns=1):
        return (columns, (run(letters),) if letters else ())

    def row(self, *letters):
        return tuple(self.cell(part) for part in letters)

    def test_rows(self):
        self.assert_table("|a|", self.row("a"))
        self.assert_table("|a|b|\n|c|d|", self.row("a", "b"), self.row("c", "d"))
        self.assert_table("| a | b c |", ((1, (run("a"),)), (1, (run("b"), SPACE, run("c")))))

    def test_empty_cells(self):
        for text in ("| |", "|  |", " | | "):
            self.assert_table(text, ((1, ()),))
        self.assert_table("|a| |b|", self.row("a", "", "b"))
        self.assert_table("|**|", ((1, ()),))
        self.assert_table("| ` ` |", ((1, ()),))

    def test_cells_that_span_columns(self):
        self.assert_table("||a|", (self.cell("a", 2),))
        self.assert_table("|a||b|", (self.cell("a"), self.cell("b", 2)))
        self.assert_table("|a||| |b|", (self.cell("a"), self.cell("", 3), self.cell("b")))
        self.assert_table("|||a||b|", (self.cell("a", 3), self.cell("b", 2)))
        self.assert_table("|| |a|", (self.cell("", 2), self.cell("a")))
        self.assert_table("||a|\n|b|c|", (self.cell("a", 2),), self.row("b", "c"))

    def test_8_columns(self):
        self.assert_table("|" + "a|" * 8, self.row(*"aaaaaaaa"))
        self.assert_table("|" * 8 + "a|", (self.cell("a", 8),))
        self.assert_table("|a" + "|" * 7 + "b|", (self.cell("a"), self.cell("b", 7)))
        self.assert_table("|" + "a|" * 8 + "  ", self.row(*"aaaaaaaa"))
        self.assert_table("|" + " |" * 8, self.row(*[""] * 8))

    def test_32_rows(self):
        self.assert_table("|a|\n" * 32, *[self.row("a")] * 32)
        self.assert_table("|a|\n|-\n" + "|a|\n" * 31, *[self.row("a")] * 32, heads=1)

    def test_blanks_around_rows(self):
        expected = (self.row("a"), self.row("b"))
        for text in ("|a|\n|b|", " |a|\n  |b|", "|a|  \n|b|  ", "|a|\n\n\n|b|\n\n", "\n\n |a| \n \n |b| \n ", "|a|\n|b|\n"):
            self.assert_table(text, *expected)

    def test_heads(self):
        expected = (self.row("a"), self.row("b"), self.row("c"))
        self.assert_table("|a|\n|-\n|b|\n|c|", *expected, heads=1)
        self.assert_table("|a|\n|b|\n|-\n|c|", *expected, heads=2)
        self.assert_table("|a|\n |-  \n\n|b|\n|c|", *expected, heads=1)
        self.assert_table("|a|\n\n|b|\n\n|-\n\n|c|\n", *expected, heads=2)

    def test_cells_that_begin_with_a_hyphen(self):
        self.assert_table("| -|", self.row("-"))
        self.assert_table("| - |\n| - |", self.row("-"), self.row("-"))
        self.assert_table("|a|-|", self.row("a", "-"))
        self.assert_table("||-|", (self.cell("-", 2),))
        self.assert_table("|a|\n| -|\n|-\n| --|", self.row("a"), self.row("-"), self.row("--"), heads=2)

    def test_bars_in_code_and_in_notes(self):
        self.assert_table("|`a|b`|", ((1, (run("a|b", 2),)),))
        self.assert_table("|{^a|b}|", ((1, (("note", 0, 0),)),), notes=((run("a|b", 4),),))
        self.assert_table("|{^`|`}|", ((1, (("note", 0, 0),)),), notes=((run("|", 2),),))
        self.assert_table("|a\\|b|", self.row("a|b"))

    def test_pieces_in_cells(self):
        cell = (run("a", 1), SPACE, run("b", 2), ("tie", 0), ("line",), label("c"), ("number", 0, "d"), ("page", 0, "e"))
        self.assert_table("| *a* `b`~\\/{=c}{#d}{@e} |", ((1, cell),))
        self.assert_table("|*a*|*b*|", ((1, (run("a", 1),)), (1, (run("b", 1),))))

    def test_spaces_are_those_of_the_text(self):
        self.assert_table("| * *a|", self.row("a"))
        self.assert_table("|a * *|", self.row("a"))

    def test_notes_are_numbered_through_the_table(self):
        text = "|{^a}|b{^c}|\n|d|*{^e}*|"
        rows = (
            ((1, (("note", 0, 0),)), (1, (run("b"), ("note", 0, 1)))),
            ((1, (run("d"),)), (1, (("note", 1, 2),))),
        )
        self.assert_table(text, *rows, notes=((run("a", 4),), (run("c", 4),), (run("e", 4),)))

    def test_newlines_in_terms(self):
        self.assert_table("|{!a\n b}|", ((1, (label("!a b"),)),))
        self.assert_table("|{!\n\na}|\n|b|", ((1, (label("!a"),)),), self.row("b"))
        self.assert_table("|{^{!a\nb}}|", ((1, (("note", 0, 0),)),), notes=((label("!a b"),),))


class Writer:
    """Writes a text at random, and tells what it is read as."""

    def __init__(self, numbers, font):
        self.numbers = numbers
        self.font = font
        self.source = ""
        self.events = []
        self.notes = []
        self.emphasis = False
        self.code = False

    def current(self):
        return 2 if self.code else 1 if self.emphasis else self.font

    def write(self, steps):
        for _ in range(steps):
            self.numbers.choice((
                self.word, self.word, self.blank, self.blank, self.emphasis_switch, self.code_switch,
                self.tie, self.line, self.escaped, self.label, self.reference, self.note,
            ))()
        if self.code:
            self.code_switch()
        if self.emphasis:
            self.emphasis_switch()
        return self

    def word(self):
        for _ in range(self.numbers.randint(1, 3)):
            sign = self.numbers.choice("ab.*~{}|[#" if self.code else "ab.=[#")
            self.source += sign
            self.events.append(("letter", self.current(), sign))

    def blank(self):
        self.source += self.numbers.choice((" ", "\n", "  "))
        self.events.append(("blank", self.current()))

    def emphasis_switch(self):
        if not self.code:
            self.source += "*"
            self.emphasis = not self.emphasis

    def code_switch(self):
        self.source += "`"
        self.code = not self.code

    def tie(self):
        if not self.code:
            self.source += "~"
            self.events.append(("piece", ("tie", self.current())))

    def line(self):
        self.source += "\\/"
        self.events.append(("piece", ("line",)))

    def escaped(self):
        sign = self.numbers.choice("*\\~{}`|")
        self.source += "\\" + sign
        self.events.append(("letter", self.current(), sign))

    def label(self):
        if not self.code:
            self.source += "{=x-1}"
            self.events.append(("piece", ("label", "x-1")))

    def reference(self):
        if not self.code:
            self.source += "{@y}"
            self.events.append(("piece", ("page", self.current(), "y")))

    def note(self):
        if self.code or self.font == 4 or len(self.notes) == 8:
            return
        inner = Writer(self.numbers, 4).write(6)
        self.source += "{^" + inner.source + "}"
        self.events.append(("piece", ("note", self.current(), len(self.notes))))
        self.notes.append(inner.pieces())

    def pieces(self):
        found = []
        events = list(self.events)
        while events and events[-1][0] == "blank":
            events.pop()
        before = ("blank",)
        for event in events:
            if event[0] == "piece":
                found.append(event[1])
            elif event[0] == "blank" and before[0] != "blank":
                found.append(("space", event[1]))
            elif event[0] == "letter" and before[0] == "letter" and before[1] == event[1]:
                found[-1] = found[-1][:2] + (found[-1][2] + event[2],)
            elif event[0] == "letter":
                found.append(("run",) + event[1:])
            before = event
        return tuple(found)


class ManyTextsTest(ReadingTest):
    def test_many_texts(self):
        numbers = random.Random(1)
        for sign, kind, font in (("# ", ("head", 1), 3), ("- ", ("item",), 0), ("! 7\n", ("figure", 7), 0)):
            for _ in range(500):
                made = Writer(numbers, font).write(12)
                self.assert_block(sign + made.source, kind, made.pieces(), tuple(made.notes))

    def test_what_is_read_is_made_of_tuples(self):
        def kinds(value):
            found = {type(value)}
            if not isinstance(value, (int, str)):
                for part in value:
                    found |= kinds(part)
            return found
        for text in ("a *b*{^c {=d}} {#e}", "|a|\n|-\n|b{^c}|", "! 5 a", "[page]", ""):
            self.assertLessEqual(kinds(read(text)), {tuple, int, str})

    def test_errors(self):
        for text in ("}", "|a", "#x", "a\n\n {?", "[cont"):
            with self.subTest(text=text):
                with self.assertRaises(BadText) as caught:
                    read(text)
                found = caught.exception
                self.assertEqual((found.line, found.column, found.what), fault(text))


if __name__ == "__main__":
    unittest.main()
