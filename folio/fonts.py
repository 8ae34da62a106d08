"""Fonts and styles (points 21 to 23)."""

from folio.errors import BadFont, BadStyle
from folio.hyphens import check_entries

# The numbers of fonts.
TEXT_FONT = 0
EMPHASIS_FONT = 1
CODE_FONT = 2
HEAD_FONT = 3
NOTE_FONT = 4

FIRST_FIGURE = 48
LAST_FIGURE = 57
HYPHEN = 45

LONGEST = 1000
MOST_FLEXIBLE = 50
MOST_WIDTHS = 100
MOST_KERNS = 40
MOST_LIGATURES = 20

GREATEST = 10000
MOST_LINES = 120
MOST_FONTS = 5
MOST_PATTERNS = 60


class Font:
    """The widths, kerns and ligatures of glyphs, and the measures of a line."""

    def __init__(self, *, line, space, stretch, shrink, figure, other, widths=(), kerns=(), ligatures=()):
        self.line = line
        self.space = space
        self.stretch = stretch
        self.shrink = shrink
        self.figure = figure
        self.other = other
        self.widths = tuple([tuple(entry) for entry in widths])
        self.kerns = tuple([tuple(entry) for entry in kerns])
        self.ligatures = tuple([tuple(entry) for entry in ligatures])
        self._known_widths = first_entries(self.widths)
        self._known_kerns = first_entries(self.kerns)
        check_font(self)

    def width_of(self, glyph):
        """The width of a glyph."""
        if is_figure(glyph):
            return self.figure
        return self._known_widths.get((glyph,), self.other)

    def kern_of(self, left, right):
        """By how much the glyph right moves closer to the glyph left."""
        return self._known_kerns.get((left, right), 0)

    def row_width(self, glyphs):
        """The width of glyphs in a row."""
        width = sum([self.width_of(glyph) for glyph in glyphs])
        return width - sum([self.kern_of(left, right) for left, right in zip(glyphs, glyphs[1:])])

    def hyphen_width(self):
        """The width of the hyphen."""
        return self.width_of(HYPHEN)


class Style:
    """The measures of pages and lines, the fonts, and the patterns of hyphenation."""

    def __init__(
        self, *, width, height, fonts, patterns=(), indent=0, gap=0, note_gap=0, float_gap=0, cell_gap=0,
        rule=0, rag=0, widow=0, orphan=0, wait=0, hyphen_cost=0, tolerance=200, justify=True,
    ):
        self.width = width
        self.height = height
        self.fonts = tuple(fonts)
        self.patterns = tuple(patterns)
        self.indent = indent
        self.gap = gap
        self.note_gap = note_gap
        self.float_gap = float_gap
        self.cell_gap = cell_gap
        self.rule = rule
        self.rag = rag
        self.widow = widow
        self.orphan = orphan
        self.wait = wait
        self.hyphen_cost = hyphen_cost
        self.tolerance = tolerance
        self.justify = justify
        check_style(self)
        check_entries(self.patterns)

    def font(self, number):
        """The font with a number, or the first one if there is none."""
        if 0 <= number < len(self.fonts):
            return self.fonts[number]
        return self.fonts[0]


def is_figure(glyph):
    """Whether a glyph draws a digit."""
    return FIRST_FIGURE <= glyph <= LAST_FIGURE


def first_entries(entries):
    """A dict from what entries are about to their last numbers; the first entry counts."""
    found = {}
    for entry in entries:
        found.setdefault(entry[:-1], entry[-1])
    return found


def is_within(bounds):
    """Whether each number of tuples (number, least, greatest) is in its bounds."""
    return all([least <= number <= greatest for number, least, greatest in bounds])


def check_font(font):
    """Raises BadFont if a font is out of its bounds (point 22)."""
    bounds = [
        (font.line, 1, LONGEST),
        (font.space, 0, LONGEST),
        (font.stretch, 0, MOST_FLEXIBLE),
        (font.shrink, 0, min(MOST_FLEXIBLE, font.space)),
        (font.figure, 0, LONGEST),
        (font.other, 0, LONGEST),
        (len(font.widths), 0, MOST_WIDTHS),
        (len(font.kerns), 0, MOST_KERNS),
        (len(font.ligatures), 0, MOST_LIGATURES),
    ]
    bounds.extend([(width, 0, LONGEST) for _, width in font.widths])
    bounds.extend([(by, 0, min(LONGEST, font.width_of(left))) for left, _, by in font.kerns])
    if not is_within(bounds):
        raise BadFont("a number of the font is out of its bounds")
    if any([is_figure(glyph) for glyph in listed_glyphs(font)]):
        raise BadFont("a figure is listed in the widths, kerns or ligatures of the font")


def listed_glyphs(font):
    """All glyphs in the widths, kerns and ligatures of a font."""
    glyphs = [glyph for glyph, _ in font.widths]
    for left, right, _ in font.kerns:
        glyphs.extend([left, right])
    for ligature in font.ligatures:
        glyphs.extend(ligature)
    return glyphs


def check_style(style):
    """Raises BadStyle if a style is out of its bounds (point 23), but for its patterns."""
    bounds = [
        (style.width, 1, GREATEST),
        (style.height, 1, GREATEST),
        (style.indent, 0, min(GREATEST, style.width - 1)),
        (len(style.fonts), 1, MOST_FONTS),
        (len(style.patterns), 0, MOST_PATTERNS),
    ]
    others = (
        style.gap, style.note_gap, style.float_gap, style.cell_gap, style.rule, style.rag,
        style.widow, style.orphan, style.wait, style.hyphen_cost, style.tolerance,
    )
    bounds.extend([(number, 0, GREATEST) for number in others])
    bounds.extend([(style.height, 1, MOST_LINES * font.line) for font in style.fonts])
    if not is_within(bounds):
        raise BadStyle("a number of the style is out of its bounds")
