"""The written form of blocks (point 20)."""

from folio.fonts import CODE_FONT, EMPHASIS_FONT, HEAD_FONT, NOTE_FONT, TEXT_FONT
from folio.reading import read

FIRST_SIGNS = ("#", "-", ">", "!", "|", "[")
WORDS_OF_BLOCKS = {"contents": "[contents]", "page_end": "[page]"}

ESCAPED_IN_CODE = "\\`"
ESCAPED = "\\`*~{}"
ESCAPED_IN_CELLS = "\\`*~{}|"


def write(block):
    """The written form of a block."""
    kind, body, notes, rows = block
    name = kind[0]
    if name in WORDS_OF_BLOCKS:
        return WORDS_OF_BLOCKS[name]
    if name == "table":
        return write_table(kind[1], rows, notes)
    font = HEAD_FONT if name == "head" else TEXT_FONT
    written = PieceWriter(notes, font, ESCAPED).write_all(body)
    if name == "para":
        return "\\" + written if written.startswith(FIRST_SIGNS) else written
    sign = sign_of(kind)
    return sign if written == "" else sign + " " + written


def tidy(text):
    """The written form of the block of a source text."""
    return write(read(text))


def sign_of(kind):
    """What stands before the text of a block that is no paragraph."""
    if kind[0] == "head":
        return "#" * kind[1]
    if kind[0] == "figure":
        return f"! {kind[1]}"
    return "-" if kind[0] == "item" else ">"


def write_table(heads, rows, notes):
    """The written form of a table."""
    lines = [write_row(row, notes) for row in rows]
    if heads > 0:
        lines.insert(heads, "|-")
    return "\n".join(lines)


def write_row(row, notes):
    """The written form of a row of a table."""
    written = ""
    for columns, pieces in row:
        text = PieceWriter(notes, TEXT_FONT, ESCAPED_IN_CELLS).write_all(pieces)
        written += "|" * columns + " " + text + " "
    return written + "|"


def write_label(label):
    """The written form of a label or an index term."""
    if label.startswith("!"):
        return "{" + label + "}"
    return "{=" + label + "}"


class PieceWriter:
    """Writes one text: a body, a cell or a note."""

    def __init__(self, notes, font, escaped):
        self.notes = notes
        self.text_font = font
        self.escaped = escaped
        self.written = ""
        self.emphasis = False
        self.code = False

    def write_all(self, pieces):
        """The written form of the pieces of the whole text."""
        for piece in pieces:
            self.write_piece(piece)
        self.switch_code(False)
        self.switch_emphasis(False)
        return self.written

    def write_piece(self, piece):
        """Writes one piece behind the others."""
        if piece[0] == "line":
            self.written += "\\/"
        elif piece[0] == "label":
            self.switch_code(False)
            self.written += write_label(piece[1])
        else:
            self.switch_to(piece[1])
            self.written += self.form_of(piece)

    def switch_to(self, font):
        """Switches emphasis and code so that this is the current font."""
        if font != CODE_FONT:
            self.switch_code(False)
        if font == self.text_font:
            self.switch_emphasis(False)
        elif font == EMPHASIS_FONT:
            self.switch_emphasis(True)
        if font == CODE_FONT:
            self.switch_code(True)

    def switch_emphasis(self, wanted):
        """Switches emphasis on or off, unless it is so already."""
        if self.emphasis != wanted:
            self.written += "*"
            self.emphasis = wanted

    def switch_code(self, wanted):
        """Switches code on or off, unless it is so already."""
        if self.code != wanted:
            self.written += "`"
            self.code = wanted

    def form_of(self, piece):
        """The written form of a piece with a font, in the current font."""
        kind = piece[0]
        if kind == "run":
            return self.form_of_letters(piece[2])
        if kind == "space":
            return " "
        if kind == "tie":
            return "~"
        if kind == "note":
            return "{^" + PieceWriter((), NOTE_FONT, ESCAPED).write_all(self.notes[piece[2]]) + "}"
        mark = "#" if kind == "number" else "@"
        return "{" + mark + piece[2] + "}"

    def form_of_letters(self, letters):
        """Letters with backslashes before those that would be read as something else."""
        escaped = ESCAPED_IN_CODE if self.code else self.escaped
        return "".join(["\\" + letter if letter in escaped else letter for letter in letters])
