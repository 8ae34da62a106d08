"""Setting blocks (points 48 to 54)."""

from folio.fonts import HEAD_FONT, NOTE_FONT, TEXT_FONT
from folio.grids import count_heads, table_lines
from folio.items import items_of
from folio.measures import width_of_item
from folio.setting import drawn_item, line_height
from folio.textlines import (
    first_lowered, justified_style, marks_of, moved, note_lines, ragged_style, referred_notes, text_lines,
)


def set_block(style, ready):
    """The set block of a ready block."""
    kind, _, _, _, rows, _ = ready
    name = kind[0]
    heads = count_heads(kind[1], rows) if name == "table" else 0
    lines = lines_of_block(style, ready)
    return tuple(lines), heads, name == "figure", name == "page_end", name == "head"


def lines_of_block(style, ready):
    """The lines of a block, by its kind (point 51)."""
    kind, lead, body, notes, rows, entries = ready
    name = kind[0]
    if name == "page_end":
        return []
    if name == "item":
        return lines_of_item(style, items_of(style, lead), items_of(style, body), notes)
    items = items_of(style, [*lead, *body])
    if name == "para":
        line_style = justified_style(style, style.width, style.indent, 0)
        return text_lines(style, line_style, items, TEXT_FONT, notes)
    if name == "quote":
        line_style = justified_style(style, style.width - style.indent, style.indent, style.indent)
        return text_lines(style, line_style, items, TEXT_FONT, notes)
    # What is left is a title or a caption.
    font = HEAD_FONT if name in ("head", "contents") else NOTE_FONT
    lines = text_lines(style, ragged_style(style, style.width, 0, 0), items, font, notes)
    if name == "figure":
        return frame_lines(style, kind[1]) + caption_lines(style, lines, items, notes)
    if name == "table":
        return table_lines(style, lines, rows, notes)
    for entry in entries:
        lines.extend(lines_of_entry(style, entry, notes))
    return lines


def lines_of_item(style, lead, body, notes):
    """The lines of an item, by the items of its lead and of its body (point 52)."""
    room = max(style.indent, sum([width_of_item(item) for item in lead]))
    lines = text_lines(style, justified_style(style, style.width, room, room), body, TEXT_FONT, notes)
    if not lead:
        return lines
    first = lead_line(style, lead, notes)
    if not lines:
        return [first]
    return [side_by_side(first, lines[0])] + lines[1:]


def lead_line(style, lead, notes):
    """The line of the lead of an item alone."""
    height = line_height(style, lead, 0, len(lead), TEXT_FONT)
    draws = []
    x = 0
    for item in lead:
        if item[0] == "box" or item[0] == "page":
            draws.append(drawn_item(style, item, x, height))
        x += width_of_item(item)
    marked, labels = marks_of(style, lead, notes)
    return height, tuple(draws), marked, labels


def at_bottom(line, height):
    """A line that is at least so high, with everything at its bottom."""
    by = max(0, height - line[0])
    return line[0] + by, moved(line[1], 0, by), line[2], line[3]


def side_by_side(one, other):
    """One line instead of two, with everything at its bottom."""
    height, draws, notes, labels = at_bottom(one, other[0])
    _, more_draws, more_notes, more_labels = at_bottom(other, one[0])
    return height, draws + more_draws, notes + more_notes, labels + more_labels


def frame_lines(style, height):
    """The line of the frame of a figure (point 53)."""
    width = style.width
    rule = style.rule
    inner = height - 2 * rule
    if inner <= 0:
        return [(height, (("rule", 0, 0, width, height),), (), ())]
    draws = [("rule", 0, 0, width, rule), ("rule", 0, rule, min(rule, width), inner)]
    if width > 2 * rule:
        draws.append(("rule", width - rule, rule, rule, inner))
    draws.append(("rule", 0, height - rule, width, rule))
    return [(height, tuple(draws), (), ())]


def caption_lines(style, lines, items, notes):
    """The lines of the caption of a figure, and those of its notes below them."""
    found = [(height, draws, (), labels) for height, draws, _, labels in lines]
    found = first_lowered(found, style.cell_gap)
    for text in referred_notes(items, notes):
        found.extend([(height, draws, (), ()) for height, draws, _, _ in note_lines(style, text)])
    return found


def lines_of_entry(style, entry, notes):
    """The lines of an entry of a list of contents (point 54)."""
    level, atoms, (_, number, figures, label) = entry
    font = style.font(number)
    width = figures * font.figure
    indent = (level - 1) * style.indent
    room = max(0, style.width - width - style.font(TEXT_FONT).space)
    line_style = ragged_style(style, room, indent, indent + style.indent)
    lines = text_lines(style, line_style, items_of(style, atoms), TEXT_FONT, notes)
    if not lines:
        lines = [(font.line, (), (), ())]
    height, draws, marked, labels = at_bottom(lines[-1], font.line)
    page = ("page", max(0, style.width - width), height - font.line, number, figures, label)
    return lines[:-1] + [(height, draws + (page,), marked, labels)]
