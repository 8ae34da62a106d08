"""Points 16 to 19: the faults of source texts, told by folio.reading.fault and folio.reading.read."""

import itertools
import random
import unittest

from folio.errors import BadText
from folio.reading import fault, read

ESCAPED = "character cannot be escaped"
UNKNOWN_MARK = "unknown mark"
NO_NAME = "name is missing"
IN_NAME = "character cannot be in a name"
LONG_NAME = "name is longer than 20"
IN_TERM = "character cannot be in a term"
LONG_TERM = "term is longer than 40"
NOTE_IN_NOTE = "note in a note"
MANY_NOTES = "more than 8 notes"
NO_NOTE = "no note to close"
EMPHASIS = "emphasis is not closed"
CODE = "code is not closed"
NOTE = "note is not closed"
END = "unexpected end"
NO_SPACE = "space is expected"
DEEP = "heading is deeper than 3"
NO_HEIGHT = "height is expected"
GREAT_HEIGHT = "height is greater than 10000"
UNKNOWN_BLOCK = "unknown block"
NOTHING = "nothing can follow"
ROW = "row is not closed"
NO_ROW = "row is expected"
NO_CELLS = "row has no cells"
NO_CELL = "cell is expected"
MANY_COLUMNS = "more than 8 columns"
MANY_ROWS = "more than 32 rows"
NO_HEADS = "rule without heads"
SECOND_RULE = "second rule"


def at_end(text):
    """The line and the column of the end of a text."""
    lines = text.split("\n")
    return len(lines), len(lines[-1]) + 1


class FaultTest(unittest.TestCase):
    def assert_fault(self, text, line, column, what):
        with self.subTest(text=text):
            self.assertEqual(fault(text), (line, column, what))
            with self.assertRaises(BadText) as caught:
                read(text)
            found = caught.exception
            self.assertEqual((found.line, found.column, found.what), (line, column, what))

    def assert_end(self, text, what):
        self.assert_fault(text, *at_end(text), what)

    def assert_last(self, text, what):
        """The fault is at the last character, whatever stands behind it."""
        line, column = at_end(text[:-1])
        for more in ("", "x", " ", "\n", "|", "}", "*", "`", "\\", "x|\n|-\n"):
            self.assert_fault(text + more, line, column, what)

    def assert_good(self, text):
        with self.subTest(text=text):
            self.assertIsNone(fault(text))
            self.assertIsInstance(read(text), tuple)


class PlacesTest(FaultTest):
    def test_lines_and_columns(self):
        self.assert_fault("}", 1, 1, NO_NOTE)
        self.assert_fault("ab}", 1, 3, NO_NOTE)
        self.assert_fault("\n}", 2, 1, NO_NOTE)
        self.assert_fault("ab\n\n cd }", 3, 5, NO_NOTE)
        self.assert_fault("ab\ncd\n\n}\n}", 4, 1, NO_NOTE)

    def test_the_end_of_the_text(self):
        self.assert_fault("*", 1, 2, EMPHASIS)
        self.assert_fault("*ab", 1, 4, EMPHASIS)
        self.assert_fault("*ab\n", 2, 1, EMPHASIS)
        self.assert_fault("*ab\n\n", 3, 1, EMPHASIS)
        self.assert_fault("*ab\n ", 2, 2, EMPHASIS)
        self.assert_fault("\n*ab  ", 2, 6, EMPHASIS)

    def test_a_newline(self):
        self.assert_fault("|ab\n", 1, 4, ROW)
        self.assert_fault("ab{\n", 1, 4, UNKNOWN_MARK)
        self.assert_fault("\n\n{\n\n", 3, 2, UNKNOWN_MARK)

    def test_no_fault(self):
        for text in ("", "a", "\n", "|a|", "[page]", "! 5"):
            self.assert_good(text)


class TextsTest(FaultTest):
    def test_behind_a_backslash(self):
        for sign in "a0/.,=^@ \n":
            if sign != "/":
                for before in ("\\", "ab\\", "`\\", "{^\\", "|\\", "# \\"):
                    self.assert_last(before + sign, ESCAPED)

    def test_behind_a_brace(self):
        for sign in "a0 \n{}*`\\~|-/":
            for before in ("{", "*{", "{^{", "|{", "# {"):
                self.assert_last(before + sign, UNKNOWN_MARK)

    def test_names_that_are_missing(self):
        for mark in ("{=}", "{#}", "{@}", "{!}", "{! }", "{! \n }", "{^{=}", "|{!}", "*{@}"):
            self.assert_last(mark, NO_NAME)

    def test_characters_of_names(self):
        for sign in " \n!\"#$&'()*+,/:;<=>?@[\\]^`{|~":
            for mark in "=#@":
                self.assert_last("{" + mark + sign, IN_NAME)
                self.assert_last("{" + mark + "ab" + sign, IN_NAME)
                self.assert_last("|{" + mark + "ab" + sign, IN_NAME)

    def test_long_names(self):
        for mark in "=#@":
            self.assert_good("{" + mark + "x" * 20 + "}")
            for sign in "x0-_.":
                self.assert_last("{" + mark + "x" * 20 + sign, LONG_NAME)
            for sign in " *{|\n":
                self.assert_last("{" + mark + "x" * 20 + sign, IN_NAME)

    def test_characters_of_terms(self):
        for sign in "\\{|":
            for before in ("{!", "{!a", "{! a ", "{^{!a", "|{!a", "{!" + "x" * 40, "{!" + "x" * 40 + " "):
                self.assert_last(before + sign, IN_TERM)

    def test_long_terms(self):
        for begin in ("{!", "{!  ", "|{!\n"):
            self.assert_last(begin + "x" * 41, LONG_TERM)
            self.assert_last(begin + "x" * 40 + " y", LONG_TERM)
            self.assert_last(begin + "x" * 40 + " \n y", LONG_TERM)
            self.assert_last(begin + "x" * 39 + " y", LONG_TERM)
            self.assert_last(begin + "x" * 39 + " \n y", LONG_TERM)
            self.assert_last(begin + "ab  " * 13 + "cd", LONG_TERM)
            for end in ("", " ", " \n ", "   "):
                self.assert_end(begin + "x" * 40 + end, END)
        self.assert_good("{!" + "x" * 40 + "   }")
        self.assert_good("{!" + "x" * 38 + " \n y}")

    def test_notes_in_notes(self):
        for before in ("{^", "{^a ", "*{^", "{^*", "|{^", "# {^"):
            self.assert_last(before + "{^", NOTE_IN_NOTE)

    def test_more_than_8_notes(self):
        self.assert_good("{^a}" * 8)
        self.assert_last("{^a}" * 8 + "{^", MANY_NOTES)
        self.assert_last("|" + "{^a}|" * 8 + "\n|{^", MANY_NOTES)
        self.assert_last("|{^a}{^b}|\n" * 4 + "|{^", MANY_NOTES)
        self.assert_last("{^a}" * 7 + "{^{^", NOTE_IN_NOTE)

    def test_no_note_to_close(self):
        for before in ("", "a", "*", "{^a}", "{=a}", "|", "|a|b", "# ", "! 5 ", "`a`"):
            self.assert_last(before + "}", NO_NOTE)
        self.assert_good("`}`")
        self.assert_good("\\}")

    def test_emphasis(self):
        for text in ("*", "*a", "a*", "*a*b*", "*`a`", "*{^a}", "# *", "- a*", "! 5 *a", "*a\n", "*a  "):
            self.assert_end(text, EMPHASIS)
        for text in ("{^*}", "{^a*b}", "*{^*a}", "{^*`a` }"):
            self.assert_last(text, EMPHASIS)
        for text in ("|*|", "|a*|", "|a|*b|", "|*a*b*  |", "||*a{^b}|", "| *|"):
            self.assert_last(text, EMPHASIS)

    def test_code(self):
        for text in ("`", "`a", "a`b`c`", "*`", "*a`b", "{^`", "{^*`}", "|`", "|`a|", "|{^`}|", "`*", "`a\n", "`{^", "# `"):
            self.assert_end(text, CODE)

    def test_notes(self):
        for text in ("{^", "{^a", "{^*a*", "*{^a", "{^`}`", "|{^", "|{^a|", "|*{^a", "{^{=a}", "{^a \n", "# {^"):
            self.assert_end(text, NOTE)

    def test_unexpected_ends(self):
        for text in (
            "\\", "a\\", "`\\", "*`\\", "{^\\", "{", "*{", "{^{", "{=", "{=a", "{#", "{#a", "{@", "{@a", "{!", "{!a",
            "{!a ", "{!a\n", "{!a\n\n", "|\\", "|{", "|{!a\n", "*a{=b", "{^*a{=b", "{^*`\\",
        ):
            self.assert_end(text, END)

    def test_the_order_of_faults_at_the_end(self):
        self.assert_end("|*{^*`a\\", END)
        self.assert_end("|*{^*`a", CODE)
        self.assert_end("|*{^*a{=b", END)
        self.assert_end("|*{^*a", EMPHASIS)
        self.assert_end("|*{^a", NOTE)
        self.assert_end("|*", EMPHASIS)
        self.assert_end("|a", ROW)
        self.assert_end("|*a`", CODE)
        self.assert_end("*{^*a", EMPHASIS)
        self.assert_end("*{^a", NOTE)
        self.assert_end("*a", EMPHASIS)


class KindsTest(FaultTest):
    def test_spaces_behind_signs(self):
        for sign in ("#", "##", "###", "-", ">", "! 5", "! 05", "! 10000"):
            for letter in "a*`\\{}~|!.":
                self.assert_last(sign + letter, NO_SPACE)
            for more in ("", " ", "\n", " a"):
                self.assert_good(sign + more)
        for text in ("--", "->", "#-", "##>", ">>", ">#", "-#", "! 5#"):
            self.assert_last(text, NO_SPACE)
        self.assert_last(" \n #a", NO_SPACE)

    def test_deep_headings(self):
        self.assert_last("####", DEEP)
        self.assert_fault("######## a", 1, 4, DEEP)
        self.assert_last("\n\n ####", DEEP)
        self.assert_good("### #")

    def test_heights_that_are_missing(self):
        for text in ("!", "! ", "!\n", "!  \n ", " !"):
            self.assert_end(text, NO_HEIGHT)
        for letter in "a5!-+.*`\\{}|[]":
            self.assert_last("!" + letter, NO_HEIGHT)
            if letter != "5":
                self.assert_last("! " + letter, NO_HEIGHT)
                self.assert_last("!\n " + letter, NO_HEIGHT)

    def test_great_heights(self):
        for text in ("! 10001", "! 10009", "! 20000", "! 99999", "! 0010001", "! 100000", "! 000100000"):
            self.assert_last(text, GREAT_HEIGHT)
        self.assert_fault("! 123456789 a", 1, 7, GREAT_HEIGHT)
        self.assert_fault("! 10000000", 1, 8, GREAT_HEIGHT)
        self.assert_last("! 10000a", NO_SPACE)

    def test_unknown_blocks(self):
        for word in ("[contents]", "[page]"):
            for length in range(1, len(word)):
                self.assert_end(word[:length], END)
                self.assert_end(" \n" + word[:length], END)
                for letter in "x0 \n\\*[C":
                    if not (length == 1 and letter in "cp"):
                        self.assert_last(word[:length] + letter, UNKNOWN_BLOCK)
        for text in ("[]", "[a", "[ ", "[co]", "[pages", "[contentsx", "[P", "[paG", "[[", "[\n"):
            self.assert_last(text, UNKNOWN_BLOCK)

    def test_what_cannot_follow(self):
        for word in ("[contents]", "[page]"):
            for letter in "ax0*[]{}|\\`":
                self.assert_last(word + letter, NOTHING)
                self.assert_last(word + "  " + letter, NOTHING)
                self.assert_last(word + "\n \n" + letter, NOTHING)


class TablesTest(FaultTest):
    def test_rows_that_are_not_closed(self):
        for text in ("|a", "|a ", "|a|b", "|a| b", "|a|\n|b", "||a", "|`a`", "|**", "|{^a}", "|{=a}", "|a{!b\n}"):
            self.assert_end(text, ROW)
        for text in ("|a\n", "|a \n", "|a|b\n", "|a| b\n", "|`a\n", "|*a\n", "|**\n", "|{^\n", "|{^a\n", "|{^`a\n", "|{^*a\n",
                     "|{^{=a}\n", "|a{!b\n}\n"):
            self.assert_last(text, ROW)

    def test_rows_that_are_expected(self):
        for sign in "a-#>!*`\\{}[]~":
            self.assert_last("|a|\n" + sign, NO_ROW)
            self.assert_last("|a|  \n \n " + sign, NO_ROW)
            self.assert_last("|a|\n|-\n" + sign, NO_ROW)

    def test_a_rule_as_the_last_line(self):
        for text in ("|a|\n|-", "|a|\n|-  ", "|a|\n|-\n", "|a|\n|b|\n |- \n \n "):
            self.assert_end(text, NO_ROW)

    def test_rows_without_cells(self):
        for text in ("|", "| ", "|  ", " |", "|a|\n|", "|a|\n|-\n|", "|a|\n | "):
            self.assert_end(text, NO_CELLS)
        for text in ("|\n", "| \n", "|a|\n|\n", "|a|b|\n|  \n"):
            self.assert_last(text, NO_CELLS)

    def test_cells_that_are_expected(self):
        for text in ("||", "|||", "|| ", "|a||", "|a||| ", "|a|b||", "|a|\n||", "|a|\n|b||", "|a|b|\n||", "|" * 12):
            self.assert_end(text, NO_CELL)
        for text in ("||\n", "|| \n", "|a||\n", "|a|||  \n", "|a|b|\n|a||\n", "|" * 12 + "\n"):
            self.assert_last(text, NO_CELL)

    def test_columns(self):
        for rows, columns, expected in (
            ("|a|b|\n|c|", 1, 2), ("|a|\n|b|c|", 2, 1), ("||a|\n|b|", 1, 2), ("|a|b|\n|c|d|\n||e|f|", 3, 2),
            ("|a|b|\n|-\n|c|", 1, 2), ("|" + "a|" * 8 + "\n|" + "b|" * 7, 7, 8), ("|a|\n|" + "b|" * 8, 8, 1),
        ):
            what = f"row has {columns} columns, expected {expected}"
            self.assert_end(rows, what)
            self.assert_end(rows + "  ", what)
            self.assert_last(rows + "\n", what)
            self.assert_last(rows + "  \n", what)

    def test_the_first_row_counts(self):
        self.assert_end("|a|b|\n|c|d|\n|e|", "row has 1 columns, expected 2")

    def test_more_than_8_columns(self):
        eight = "|" + "a|" * 8
        for sign in "a}*`\\{~.":
            self.assert_last(eight + sign, MANY_COLUMNS)
            self.assert_last(eight + "  " + sign, MANY_COLUMNS)
            self.assert_last("|" * 9 + sign, MANY_COLUMNS)
            self.assert_last("|" * 20 + " " + sign, MANY_COLUMNS)
            self.assert_last("|a" + "|" * 8 + sign, MANY_COLUMNS)
            self.assert_last("|a|\n" + eight + " " + sign, MANY_COLUMNS)
        self.assert_last("|a|b|" + "|" * 6 + "c", MANY_COLUMNS)

    def test_more_than_8_columns_in_an_empty_cell(self):
        eight = "|" + "a|" * 8
        self.assert_last(eight + " |", MANY_COLUMNS)
        self.assert_last(eight + "   |", MANY_COLUMNS)
        self.assert_last("|" * 9 + " |", MANY_COLUMNS)
        self.assert_last("|" + " |" * 9, MANY_COLUMNS)
        self.assert_end(eight + "|", NO_CELL)
        self.assert_good(eight + "   ")

    def test_more_than_32_rows(self):
        rows = "|a|\n" * 32
        self.assert_good(rows)
        self.assert_last(rows + "|", MANY_ROWS)
        self.assert_last(rows + "  \n  |", MANY_ROWS)
        self.assert_fault(rows + "|-", 33, 1, MANY_ROWS)
        self.assert_fault("|a|\n|-\n" + "|a|\n" * 31 + "|-", 34, 1, MANY_ROWS)
        self.assert_fault(rows + "b", 33, 1, NO_ROW)
        self.assert_good("|a|\n|-\n" + "|a|\n" * 31)

    def test_rules(self):
        self.assert_last("|-", NO_HEADS)
        self.assert_last("\n \n |-", NO_HEADS)
        self.assert_last("|a|\n|-\n|-", SECOND_RULE)
        self.assert_last("|a|\n|-\n|b|\n|-", SECOND_RULE)
        self.assert_last("|a|\n|b|\n |- \n\n |c|\n  |-", SECOND_RULE)

    def test_what_cannot_follow_a_rule(self):
        for letter in "a-|*\\{}`":
            self.assert_last("|a|\n|-" + letter, NOTHING)
            self.assert_last("|a|\n|-  " + letter, NOTHING)

    def test_faults_within_cells(self):
        for text, what in (
            ("|}", NO_NOTE), ("|a|}", NO_NOTE), ("|{?", UNKNOWN_MARK), ("|\\a", ESCAPED), ("|{=|", IN_NAME),
            ("|{!|", IN_TERM), ("|{^{^", NOTE_IN_NOTE), ("|{|", UNKNOWN_MARK), ("|{^}}", NO_NOTE), ("|{=\n", IN_NAME),
            ("|{\n", UNKNOWN_MARK), ("|\\\n", ESCAPED), ("|{=}", NO_NAME),
        ):
            self.assert_last(text, what)


def can_be_completed(text):
    """Whether more can stand behind a text so that it has no fault."""
    more = {
        CODE: "`", EMPHASIS: "*", NOTE: "}", ROW: "|", NO_ROW: "\n|a|", NO_CELLS: "a|", NO_CELL: "a|",
    }
    for _ in range(60):
        found = fault(text)
        if found is None:
            return True
        what = found[2]
        if found[:2] != at_end(text):
            return False
        if what == END:
            text = completed_word(text)
        elif "columns, expected" in what:
            have, want = [int(word) for word in what.replace(",", "").split() if word.isdigit()]
            if have > want:
                # The fault of such a row is at its end, although nothing can make it good before.
                return True
            text += "a|"
        elif what == NO_HEIGHT:
            text += "5" if text[-1] in " \n" else " "
        else:
            text += more[what]
    return False


def completed_word(text):
    """The text with one or more characters behind it, where it must not end."""
    for word in ("[contents]", "[page]"):
        begin = text.strip()
        if begin and word.startswith(begin):
            return text + word[len(begin):]
    for more in ("/", "}", "a}", "=a}"):
        found = fault(text + more)
        if found is None or (found[:2] == at_end(text + more) and found[2] != END):
            return text + more
    return text


class PrefixesTest(unittest.TestCase):
    """The fault is at the first character that cannot follow those before it."""

    def assert_first(self, text):
        found = fault(text)
        for length in range(len(text)):
            begin = fault(text[:length])
            end = at_end(text[:length])
            if found is not None and found[:2] < end:
                self.assertEqual(begin, found)
            elif begin is not None:
                self.assertEqual(begin[:2], end)
        # A row with too many bars is wrong before its cell begins.
        if found is not None and found[:2] != at_end(text) and found[2] != MANY_COLUMNS:
            lines = text.split("\n")[:found[0]]
            lines[-1] = lines[-1][:found[1] - 1]
            self.assertTrue(can_be_completed("\n".join(lines)), text)

    def test_all_short_texts(self):
        for alphabet, most in (("a *`\\{}^=", 4), ("|a-\n *", 5), ("#! 5\n", 5), ("|{^}`*\n", 4), ("[pcae] ", 4)):
            for length in range(most + 1):
                for letters in itertools.product(alphabet, repeat=length):
                    self.assert_first("".join(letters))

    def test_random_texts(self):
        numbers = random.Random(1)
        parts = ["|", "|", "|-", "\n", "\n", " ", "a", "*", "`", "{^", "}", "{=a}", "{!b c}", "{!", "{=", "\\", "\\|", "~", "- ", "|a|b|\n"]
        for begin in ("", "|", "|a|b|\n", "# ", "! 5 "):
            for _ in range(600):
                text = begin + "".join(numbers.choice(parts) for _ in range(numbers.randint(1, 14)))
                with self.subTest(text=text):
                    self.assert_first(text)


if __name__ == "__main__":
    unittest.main()
