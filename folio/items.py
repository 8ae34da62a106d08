"""The items of a text (points 32 and 33)."""

from folio.hyphens import LETTERS, places
from folio.shaping import glyphs_of

# Text, emphasis and notes; neither code nor headings.
FONTS_WITH_CUT_WORDS = (0, 1, 4)


def items_of(style, atoms):
    """The list of the items of a text, for its atoms."""
    found = []
    for atom in atoms:
        found.extend(items_of_atom(style, atom))
    return found


def items_of_atom(style, atom):
    """The items of one atom (point 32)."""
    kind = atom[0]
    if kind == "run":
        return items_of_run(style, atom[1], atom[2])
    if kind == "space" or kind == "tie":
        font = style.font(atom[1])
        return [("glue", font.space, font.stretch, font.shrink, kind == "space")]
    if kind == "line":
        return [("forced",)]
    if kind == "page":
        _, number, figures, label = atom
        return [("page", figures * style.font(number).figure, number, figures, label)]
    return [tuple(atom)]


def items_of_run(style, number, letters):
    """The items of a run: its pieces, and what stands between them (point 33)."""
    found = []
    start = 0
    for end, between in cuts_of_run(style, number, letters):
        found.append(box_of(style, number, letters[start:end]))
        found.append(between)
        start = end
    found.append(box_of(style, number, letters[start:]))
    return found


def box_of(style, number, letters):
    """The box of letters that are shaped together."""
    font = style.font(number)
    glyphs = glyphs_of(font, letters)
    return ("box", font.row_width(glyphs), number, glyphs)


def cuts_of_run(style, number, letters):
    """Where a run is cut, tuples of a number of letters and the item that stands there."""
    hyphen = ("hyphen", style.font(number).hyphen_width(), number, style.hyphen_cost)
    penalty = ("penalty", style.hyphen_cost)
    groups = groups_of(letters)
    cuts = []
    start = 0
    for index, group in enumerate(groups):
        if group[0] in LETTERS:
            if number in FONTS_WITH_CUT_WORDS:
                cuts.extend([(start + place, hyphen) for place in places(style.patterns, group)])
        elif group == "-" and 0 < index < len(groups) - 1:
            cuts.append((start + 1, penalty))
        start += len(group)
    return cuts


def groups_of(letters):
    """The longest parts that consist of letters of words, and those between them."""
    groups = []
    for letter in letters:
        if groups and (letter in LETTERS) == (groups[-1][0] in LETTERS):
            groups[-1] += letter
        else:
            groups.append(letter)
    return groups
