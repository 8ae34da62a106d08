"""Reading the pieces of a text (points 12 to 15)."""

from folio.fonts import CODE_FONT, EMPHASIS_FONT, NOTE_FONT
from folio.source import BLANKS

ESCAPABLE = "*\\~{}#->!|[]`"
NAME_SIGNS = "abcdefghijklmnopqrstuvwxyzABCDEFGHIJKLMNOPQRSTUVWXYZ0123456789_.-"
NO_TERM_SIGNS = "\\{|"
LONGEST_NAME = 20
LONGEST_TERM = 40
MOST_NOTES = 8

# What a text is a part of; for each of these, the sign that ends it.
BODY = 0
CELL = 1
NOTE = 2
NOTE_IN_CELL = 3
LAST_SIGNS = ("", "|", "}", "}")


def read_pieces(source, notes, font, place):
    """The pieces of the text that begins here; its notes are put behind the other notes."""
    return PieceReader(source, notes, font, place).read_all()


def read_name(source):
    """The label of a mark, of which the brace behind it is read too."""
    start = source.at
    while source.here() != "}":
        if source.here() == "":
            source.fail("unexpected end")
        if source.here() not in NAME_SIGNS:
            source.fail("character cannot be in a name")
        if source.at - start == LONGEST_NAME:
            source.fail("name is longer than 20")
        source.step()
    name = source.text[start:source.at]
    if name == "":
        source.fail("name is missing")
    source.step()
    return name


def read_term(source):
    """The index term of a mark, of which the brace behind it is read too."""
    term = ""
    gap = ""
    while source.here() != "}":
        sign = source.here()
        if sign == "":
            source.fail("unexpected end")
        if sign in NO_TERM_SIGNS:
            source.fail("character cannot be in a term")
        if sign in BLANKS:
            # Blanks only count once a word stands behind them.
            gap = " " if term != "" else ""
        elif len(term + gap + sign) > LONGEST_TERM:
            source.fail("term is longer than 40")
        else:
            term += gap + sign
            gap = ""
        source.step()
    if term == "":
        source.fail("name is missing")
    source.step()
    return term


class PieceReader:
    """Reads one text: a body, a cell or a note."""

    def __init__(self, source, notes, font, place):
        self.source = source
        self.notes = notes
        self.text_font = font
        self.place = place
        self.pieces = []
        self.emphasis = False
        self.code = False
        # The font of blanks that become a space if anything follows.
        self.waiting = None

    def read_all(self):
        """The pieces of the text, up to its end or to the sign that ends it."""
        while not self.is_over():
            self.read_next()
        if self.code:
            self.source.fail("code is not closed")
        if self.emphasis:
            self.source.fail("emphasis is not closed")
        return tuple(self.pieces)

    def is_over(self):
        """Whether the text ends here."""
        sign = self.source.here()
        return sign == "" or (not self.code and sign == LAST_SIGNS[self.place])

    def current_font(self):
        """The font of what is read now."""
        if self.code:
            return CODE_FONT
        return EMPHASIS_FONT if self.emphasis else self.text_font

    def read_next(self):
        """Reads one character, or a mark."""
        sign = self.source.here()
        if sign == "\n" and self.place in (CELL, NOTE_IN_CELL):
            self.source.fail("row is not closed")
        if sign == "}" and not self.code:
            self.source.fail("no note to close")
        self.source.step()
        if sign in BLANKS:
            self.add_blank()
        elif sign == "`":
            self.code = not self.code
        elif sign == "\\":
            self.read_escaped()
        elif sign == "*" and not self.code:
            self.emphasis = not self.emphasis
        elif sign == "~" and not self.code:
            self.add_piece(("tie", self.current_font()))
        elif sign == "{" and not self.code:
            self.read_mark()
        else:
            self.add_letter(sign)

    def read_escaped(self):
        """Reads the character behind a backslash."""
        sign = self.source.here()
        if sign == "":
            self.source.fail("unexpected end")
        if sign != "/" and sign not in ESCAPABLE:
            self.source.fail("character cannot be escaped")
        self.source.step()
        if sign == "/":
            self.add_piece(("line",))
        else:
            self.add_letter(sign)

    def read_mark(self):
        """Reads a mark from the character behind its brace on."""
        source = self.source
        sign = source.here()
        if sign == "":
            source.fail("unexpected end")
        if sign not in "^=#@!":
            source.fail("unknown mark")
        if sign == "^":
            self.read_note()
            return
        source.step()
        if sign == "=":
            self.add_piece(("label", read_name(source)))
        elif sign == "#":
            self.add_piece(("number", self.current_font(), read_name(source)))
        elif sign == "@":
            self.add_piece(("page", self.current_font(), read_name(source)))
        else:
            self.add_piece(("label", "!" + read_term(source)))

    def read_note(self):
        """Reads a note from the sign behind its brace on."""
        if self.place in (NOTE, NOTE_IN_CELL):
            self.source.fail("note in a note")
        if len(self.notes) == MOST_NOTES:
            self.source.fail("more than 8 notes")
        self.source.step()
        self.add_piece(("note", self.current_font(), len(self.notes)))
        place = NOTE_IN_CELL if self.place == CELL else NOTE
        note = read_pieces(self.source, self.notes, NOTE_FONT, place)
        if self.source.here() == "":
            self.source.fail("note is not closed")
        self.source.step()
        self.notes.append(note)

    def add_blank(self):
        """Takes a blank; the first one of several tells the font of their space."""
        if self.waiting is None and self.pieces:
            self.waiting = self.current_font()

    def add_piece(self, piece):
        """Adds a piece, behind the space of the blanks before it."""
        if self.waiting is not None:
            self.pieces.append(("space", self.waiting))
            self.waiting = None
        self.pieces.append(piece)

    def add_letter(self, letter):
        """Adds a character of a word."""
        font = self.current_font()
        if self.waiting is None and self.pieces and self.pieces[-1][:2] == ("run", font):
            self.pieces[-1] = ("run", font, self.pieces[-1][2] + letter)
        else:
            self.add_piece(("run", font, letter))
