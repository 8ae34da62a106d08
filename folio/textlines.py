"""The lines of a text, with the notes and labels that belong to them (points 49 to 51)."""

from folio.breaking import LineStyle, break_lines
from folio.fonts import NOTE_FONT
from folio.items import items_of
from folio.measures import Measures
from folio.setting import draw_measured


def justified_style(style, width, first, rest):
    """The line style of lines of text, by the style of the book."""
    return LineStyle(
        width=width, first=first, rest=rest,
        justify=style.justify, tolerance=style.tolerance, rag=style.rag,
    )


def ragged_style(style, width, first, rest):
    """The line style of ragged lines, by the style of the book."""
    return LineStyle(
        width=width, first=first, rest=rest,
        justify=False, tolerance=style.tolerance, rag=style.rag,
    )


def text_lines(style, line_style, items, font, notes):
    """The lines of a text of a block with these notes; each is a tuple (height, draws, notes, labels)."""
    measures = Measures(items)
    ends, _ = break_lines(items, line_style)
    found = []
    start = 0
    for end in ends:
        height, draws = draw_measured(style, line_style, measures, start, end, font)
        marked, labels = marks_of(style, items[start:end], notes)
        found.append((height, tuple(draws), marked, labels))
        start = end
    return found


def marks_of(style, items, notes):
    """The set notes to which items refer, and the labels among the items and in these notes."""
    texts = referred_notes(items, notes)
    labels = labels_of(items)
    for text in texts:
        labels.extend(labels_of(text))
    return tuple([stacked(note_lines(style, text)) for text in texts]), tuple(labels)


def referred_notes(items, notes):
    """Those of the notes of a block to which items refer, in order."""
    numbers = [item[1] for item in items if item[0] == "note"]
    return [notes[number] for number in numbers if 0 <= number < len(notes)]


def labels_of(items):
    """The labels among items or atoms."""
    return [item[1] for item in items if item[0] == "label"]


def note_lines(style, text):
    """The lines of a note."""
    line_style = justified_style(style, style.width, 0, 0)
    return text_lines(style, line_style, items_of(style, text), NOTE_FONT, ())


def moved(draws, right, down):
    """What is drawn, moved to the right and down."""
    return tuple([(draw[0], draw[1] + right, draw[2] + down) + tuple(draw[3:]) for draw in draws])


def stacked(lines):
    """The height and the draws of lines that are drawn one below the other."""
    height = 0
    draws = []
    for line in lines:
        draws.extend(moved(line[1], 0, height))
        height += line[0]
    return height, tuple(draws)


def lowered(line, by):
    """A line that is higher, with everything in it so much lower."""
    height, draws, notes, labels = line
    return height + by, moved(draws, 0, by), notes, labels


def first_lowered(lines, by):
    """Lines of which the first one, if there is one, is lowered."""
    return [lowered(line, by) for line in lines[:1]] + lines[1:]
