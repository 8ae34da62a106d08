"""Setting and drawing lines (points 42 to 44)."""

from folio.measures import Measures, shrink_of_item, stretch_of_item, width_of_item

HYPHEN = 45


def shares(amount, weights):
    """The shares of an amount among weights."""
    total = sum(weights)
    if total == 0:
        return [0 for _ in weights]
    found = []
    before = 0
    reached = 0
    for weight in weights:
        reached += weight
        share_to_here = reached * amount // total
        found.append(share_to_here - before)
        before = share_to_here
    return found


def set_line(items, style, start, end):
    """The widths of the items of a line when it is set, and the width of the hyphen at its end."""
    measures = Measures(items)
    return set_widths(measures, style, start, end), measures.hyphen_width(end)


def set_widths(measures, style, start, end):
    """The widths of the items of a line when it is set, by its measures (point 43)."""
    line = measures.line_parts(start, end)
    width, _, shrink = measures.measure(start, end)
    room = style.room(start)
    more = [0 for _ in line]
    if style.justify and width > room:
        less = min(width - room, shrink)
        more = [-share for share in shares(less, [shrink_of_item(item) for item in line])]
    elif style.justify and not measures.is_loose(end):
        more = shares(room - width, [stretch_of_item(item) for item in line])
    return [width_of_item(item) + change for item, change in zip(line, more)]


def line_height(style, items, start, end, font):
    """The height of a line; the number of a font is given for a line that has none."""
    heights = []
    for item in items[start:end]:
        number = font_of_item(item)
        if number is not None:
            heights.append(style.font(number).line)
    return max(heights, default=style.font(font).line)


def font_of_item(item):
    """The number of the font of an item, or None if it has none."""
    if item[0] in ("box", "page", "hyphen"):
        return item[2]
    return None


def draw_line(style, line_style, items, start, end, font):
    """The height of a line, and the list of what is drawn in it."""
    return draw_measured(style, line_style, Measures(items), start, end, font)


def draw_measured(style, line_style, measures, start, end, font):
    """The height of a line, and what is drawn in it, by its measures (point 44)."""
    height = line_height(style, measures.parts, start, end, font)
    widths = set_widths(measures, line_style, start, end)
    draws = []
    x = line_style.indent_of(start)
    for item, width in zip(measures.line_parts(start, end), widths):
        if item[0] == "box" or item[0] == "page":
            draws.append(drawn_item(style, item, x, height))
        x += width
    if measures.has_hyphen(end):
        number = measures.parts[end - 1][2]
        draws.append(("text", x, height - style.font(number).line, number, (HYPHEN,)))
    return height, draws


def drawn_item(style, item, x, height):
    """What is drawn for a box or a page at the bottom of a line of this height."""
    y = height - style.font(item[2]).line
    if item[0] == "box":
        return ("text", x, y, item[2], item[3])
    return ("page", x, y, item[2], item[3], item[4])
