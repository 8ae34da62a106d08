"""Reading tables (points 16 and 17)."""

from folio.fonts import TEXT_FONT
from folio.pieces import CELL, read_pieces

MOST_COLUMNS = 8
MOST_ROWS = 32


def read_table(source, notes):
    """The number of heads of the table that begins here, and its rows."""
    rows = []
    heads = 0
    while source.here() != "":
        if source.here() != "|":
            source.fail("row is expected")
        if len(rows) == MOST_ROWS:
            source.fail("more than 32 rows")
        if source.behind() == "-":
            read_rule(source, rows, heads)
            heads = len(rows)
        else:
            rows.append(read_row(source, notes, rows))
        source.skip_blanks()
    if heads == len(rows):
        source.fail("row is expected")
    return heads, tuple(rows)


def read_rule(source, rows, heads):
    """Reads the line below the heads."""
    source.step()
    if not rows:
        source.fail("rule without heads")
    if heads > 0:
        source.fail("second rule")
    source.step()
    source.skip_spaces()
    if not source.is_line_over():
        source.fail("nothing can follow")


def read_row(source, notes, rows):
    """The cells of a row below other rows."""
    cells = []
    span = read_bars(source)
    while not source.is_line_over():
        if width_of_row(cells) + span > MOST_COLUMNS:
            source.fail("more than 8 columns")
        pieces = read_pieces(source, notes, TEXT_FONT, CELL)
        if source.here() == "":
            source.fail("row is not closed")
        cells.append((span, pieces))
        span = read_bars(source)
    if span > 1:
        source.fail("cell is expected")
    if not cells:
        source.fail("row has no cells")
    check_width(source, cells, rows)
    return tuple(cells)


def read_bars(source):
    """The number of bars that stand here; the blanks behind them are read too."""
    count = 0
    while source.here() == "|":
        count += 1
        source.step()
    source.skip_spaces()
    return count


def width_of_row(cells):
    """The number of columns that cells span together."""
    return sum([span for span, _ in cells])


def check_width(source, cells, rows):
    """Fails if a row spans another number of columns than the first one."""
    if not rows:
        return
    width = width_of_row(cells)
    expected = width_of_row(rows[0])
    if width != expected:
        source.fail(f"row has {width} columns, expected {expected}")
