"""Drawing pages (points 84 and 85)."""

from folio.fonts import FIRST_FIGURE
from folio.pagetables import content_of
from folio.textlines import moved, stacked

# A third of the width of the page is the width of the rule above notes.
RULE_PART = 3


def heights_of_page(tables, page):
    """The heights of the lines and space, the head, the notes and the floats of a page."""
    start, end, first, last, _ = page
    return (
        tables.lines_height(start, end),
        tables.head_height(start, end),
        tables.notes_height(start, end),
        tables.floats_height(first, last),
    )


def draw_page(blocks, tables, page, label_pages):
    """The height of a page of set blocks, and the list of what is drawn on it."""
    start, end, first, last, _ = page
    style = tables.style
    height = max(style.height, sum(heights_of_page(tables, page)))
    draws = []
    y = 0
    for item in tables.floats[first:last]:
        used, drawn = stacked(blocks[item[1]][0])
        draws.extend(moved(drawn, 0, y))
        y += used + style.float_gap
    content = content_of(tables.parts[start:end])
    draws.extend(draw_content(blocks, content, y))
    draws.extend(draw_notes(style, blocks, content, height))
    return height, [resolved(style, draw, label_pages) for draw in draws]


def draw_content(blocks, content, y):
    """What is repeated and the content of a page, from y on."""
    if not content:
        return []
    repeated = repeated_lines(blocks, content[0])
    lines = repeated + [line_of_item(blocks, item) for item in content]
    return moved(stacked(lines)[1], 0, y)


def repeated_lines(blocks, item):
    """The lines that are repeated on a page of which the content begins with a line."""
    block = blocks[item[1]]
    return list(block[0][:block[1]]) if item[5] > 0 else []


def line_of_item(blocks, item):
    """The line of an item of the content; for other items, an empty one that is as high."""
    if item[0] == "line":
        return blocks[item[1]][0][item[2]]
    return (item[1] if item[0] == "space" else 0, (), (), ())


def draw_notes(style, blocks, content, height):
    """The notes of a page of this height, and the rule above them."""
    notes = []
    for item in content:
        notes.extend(line_of_item(blocks, item)[2])
    used, drawn = stacked(notes)
    if used == 0:
        return []
    rule = []
    if 1 <= style.rule <= style.note_gap:
        y = height - used - style.note_gap + (style.note_gap - style.rule) // 2
        rule = [("rule", 0, y, style.width // RULE_PART, style.rule)]
    return rule + list(moved(drawn, 0, height - used))


def resolved(style, draw, label_pages):
    """A drawn page number as the text that it is; anything else as it is."""
    if draw[0] != "page":
        return draw
    _, x, y, font, figures, label = draw
    digits = str(label_pages[label])
    free = figures - len(digits)
    glyphs = tuple([FIRST_FIGURE + int(digit) for digit in digits])
    return ("text", x + free * style.font(font).figure, y, font, glyphs)
