"""Places at which words may be hyphenated, by patterns and exceptions (points 26 to 29)."""

from folio.errors import BadEntry

LETTERS = "abcdefghijklmnopqrstuvwxyzABCDEFGHIJKLMNOPQRSTUVWXYZ"
DIGITS = "0123456789"
LONGEST_ENTRY = 24


def check_entries(entries):
    """Raises BadEntry for the first text that is neither an exception nor a pattern."""
    for at, entry in enumerate(entries):
        if not is_entry(entry):
            raise BadEntry(at)


def is_entry(text):
    """Whether a text is an exception or a pattern (point 27)."""
    return len(text) <= LONGEST_ENTRY and (is_exception(text) or is_pattern(text))


def is_exception(text):
    """Whether a text consists of words with single hyphens between them."""
    return all([is_word(part) for part in text.split("-")])


def is_pattern(text):
    """Whether a text consists of letters, digits, and dots at its ends alone."""
    plain = "".join([sign for sign in text if sign not in DIGITS])
    word = plain.removeprefix(".").removesuffix(".")
    # If nothing was left out, the text has neither a digit nor a dot.
    return word != text and is_word(word)


def is_word(text):
    """Whether a text consists of one or more letters of words."""
    return text != "" and all([sign in LETTERS for sign in text])


def levels(entries, word):
    """The levels of the places 1 to n - 1 of a word of n letters (point 28)."""
    dotted = "." + word.lower() + "."
    found = [0] * (len(dotted) + 1)
    for entry in entries:
        # An exception has no digits: it gives no level, or only the level 0.
        for at, level in given_levels(entry, dotted):
            found[at] = max(found[at], level)
    # The place i of the word is behind i + 1 characters of the dotted word.
    return found[2:-2]


def given_levels(pattern, dotted):
    """Tuples of a place of a dotted word and a level, wherever a pattern fits in it."""
    characters, marks = split_pattern(pattern)
    found = []
    start = dotted.find(characters)
    while start >= 0:
        found.extend([(start + index, level) for index, level in enumerate(marks)])
        start = dotted.find(characters, start + 1)
    return found


def split_pattern(pattern):
    """The letters and dots of a pattern in lower case, and the levels around them."""
    characters = ""
    marks = [0]
    for sign in pattern.lower():
        if sign in DIGITS:
            # Of several digits in a row the last one counts.
            marks[-1] = int(sign)
        else:
            characters += sign
            marks.append(0)
    return characters, marks


def places(entries, word):
    """The places at which a word may be hyphenated, in ascending order (point 29)."""
    found = exception_places(entries, word)
    if found is None:
        found = odd_places(entries, word)
    return [place for place in found if is_inner(place, len(word))]


def is_inner(place, length):
    """Whether a place of a word of this length is inner (point 26)."""
    return 2 <= place <= length - 3


def exception_places(entries, word):
    """The places of the first exception for a word, or None if there is none."""
    for entry in entries:
        # A pattern has a digit or a dot, so it never has the letters of a word alone.
        if entry.replace("-", "").lower() == word.lower():
            return hyphen_places(entry)
    return None


def hyphen_places(exception):
    """The places at which a word with hyphens has them."""
    found = []
    letters = 0
    for sign in exception:
        if sign == "-":
            found.append(letters)
        else:
            letters += 1
    return found


def odd_places(entries, word):
    """The places of a word with odd levels."""
    marks = levels(entries, word)
    return [index + 1 for index, level in enumerate(marks) if level % 2 == 1]
