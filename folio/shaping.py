"""Shaping: letters become glyphs (points 24 and 25)."""


def shape(font, letters):
    """The parts of letters with their glyphs, a list of tuples (text, glyph)."""
    table = glyph_starts(font, letters)
    counts = fewest_parts(table)
    parts = []
    end = len(letters)
    # The least way is looked for from the end of the letters, where it begins.
    while end > 0:
        start, glyph = last_part(table[end], counts, end)
        parts.append((letters[start:end], glyph))
        end = start
    return parts[::-1]


def glyphs_of(font, letters):
    """The glyphs that draw letters."""
    return tuple([glyph for _, glyph in shape(font, letters)])


def glyph_starts(font, letters):
    """For each number of letters, which glyphs stand for the last ones of them.

    This is a list of dicts from glyphs to the places at which a part for which the glyph
    stands may begin. These places are the bits of a number, so that many of them are
    joined at once: letters of which everything is joined have too many parts otherwise.
    """
    table = [{}]
    reach = [{}]
    for letter in letters:
        found = starts_of_parts(font.ligatures, table, reach, ord(letter))
        table.append(found)
        reach.append(united(reach[-1], found))
    return table


def united(starts, others):
    """A dict from glyphs to the places that they have in one of two dicts."""
    found = starts.copy()
    for glyph, places in others.items():
        found[glyph] = found.get(glyph, 0) | places
    return found


def starts_of_parts(ligatures, table, reach, glyph):
    """The dict for one more letter, which this glyph draws, behind those of the table.

    The reach of a number of letters unites the dicts for it and for all smaller numbers.
    """
    first = 1 << (len(table) - 1)
    found = {glyph: first}
    waiting = first
    # A part is joined from shorter ones, so the parts that begin last come first.
    while waiting > 0 and ligatures:
        middle = waiting.bit_length() - 1
        bit = 1 << middle
        waiting -= bit
        useful = []
        for left, right, joined in ligatures:
            if left in table[middle] and found.get(right, 0) & bit > 0:
                found[joined] = found.get(joined, 0) | table[middle][left]
                waiting |= table[middle][left]
            # Further to the left a ligature only matters while it can still find new places.
            if reach[middle].get(left, 0) & ~found.get(joined, 0) > 0:
                useful.append((left, right, joined))
        ligatures = useful
    return found


def has_bit(number, place):
    """Whether the bit at a place of a number is 1."""
    return (number >> place) & 1 == 1


def fewest_parts(table):
    """For each number of letters, the least number of parts into which they are cut."""
    counts = [0]
    for starts in table[1:]:
        anywhere = 0
        for places in starts.values():
            anywhere |= places
        counts.append(1 + min([count for at, count in enumerate(counts) if has_bit(anywhere, at)]))
    return counts


def last_part(starts, counts, end):
    """Where the last part of so many letters begins, and its glyph."""
    start = end - 1
    while True:
        if counts[start] + 1 == counts[end]:
            glyphs = [glyph for glyph, places in starts.items() if has_bit(places, start)]
            if glyphs:
                return start, min(glyphs)
        start -= 1
