"""Reading source texts (points 8 to 19)."""

from folio.errors import BadText
from folio.fonts import HEAD_FONT, TEXT_FONT
from folio.pieces import BODY, read_pieces
from folio.source import BLANKS, Source
from folio.tables import read_table

DEEPEST_HEAD = 3
GREATEST_HEIGHT = 10000


def read(text):
    """The block of a source text."""
    source = Source(text)
    source.skip_blanks()
    notes = []
    body = ()
    rows = ()
    if source.here() == "|":
        heads, rows = read_table(source, notes)
        kind = ("table", heads)
    elif source.here() == "[":
        kind = read_word(source)
    else:
        kind = read_sign(source)
        font = HEAD_FONT if kind[0] == "head" else TEXT_FONT
        body = read_pieces(source, notes, font, BODY)
    return (kind, body, tuple(notes), rows)


def fault(text):
    """The fault of a source text as a tuple (line, column, what), or None."""
    try:
        read(text)
    except BadText as found:
        return (found.line, found.column, found.what)
    return None


def read_word(source):
    """The kind of a block that is one word in brackets."""
    source.step()
    kind = ("contents",) if source.here() == "c" else ("page_end",)
    for sign in "contents]" if kind == ("contents",) else "page]":
        if source.here() == "":
            source.fail("unexpected end")
        if source.here() != sign:
            source.fail("unknown block")
        source.step()
    source.skip_blanks()
    if source.here() != "":
        source.fail("nothing can follow")
    return kind


def read_sign(source):
    """The kind of any other block; its sign is read, and what belongs to this."""
    sign = source.here()
    if sign == "#":
        return read_head(source)
    if sign == "!":
        return read_figure(source)
    if sign != "-" and sign != ">":
        return ("para",)
    source.step()
    source.expect_space()
    return ("item",) if sign == "-" else ("quote",)


def read_head(source):
    """The kind of a heading."""
    level = 0
    while source.here() == "#":
        if level == DEEPEST_HEAD:
            source.fail("heading is deeper than 3")
        level += 1
        source.step()
    source.expect_space()
    return ("head", level)


def read_figure(source):
    """The kind of a figure."""
    source.step()
    if source.here() not in BLANKS:
        source.fail("height is expected")
    source.skip_blanks()
    if not source.here().isdigit():
        source.fail("height is expected")
    height = 0
    while source.here().isdigit():
        height = 10 * height + int(source.here())
        if height > GREATEST_HEIGHT:
            source.fail("height is greater than 10000")
        source.step()
    source.expect_space()
    return ("figure", height)
