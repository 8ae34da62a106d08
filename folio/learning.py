"""Learning entries for hyphenation from examples (points 30 and 31)."""

from folio.errors import BadExample
from folio.hyphens import given_levels, hyphen_places, is_inner, levels

LETTERS = "abcdefghijklmnopqrstuvwxyz"
LONGEST_EXAMPLE = 24
GREATEST_LEVEL = 4
LONGEST_RUN = 3


def learn(examples):
    """The entries that are learned from a list of examples."""
    check_examples(examples)
    known = [Example(text) for text in examples]
    entries = Entries(known, learn_patterns(known))
    entries.add_exceptions()
    while entries.leave_out():
        pass
    plain = [text for text in examples if "-" in text]
    if len(entries.texts) > len(plain):
        return plain
    return entries.texts


class Example:
    """An example: its word, and the places at which the word has hyphens."""

    def __init__(self, text):
        self.text = text
        self.word = text.replace("-", "")
        self.places = hyphen_places(text)

    def inner_places(self):
        """The inner places of the word, in ascending order."""
        return [place for place in range(len(self.word)) if is_inner(place, len(self.word))]

    def is_right(self, place, level):
        """Whether a level says of a place what the example says of it."""
        return (level % 2 == 1) == (place in self.places)


def check_examples(examples):
    """Raises BadExample for the first example that cannot be learned from (point 30)."""
    for at, example in enumerate(examples):
        if not is_example(example):
            raise BadExample(at, "invalid")
    words = set()
    for at, example in enumerate(examples):
        word = example.replace("-", "")
        if word in words:
            raise BadExample(at, "duplicate")
        words.add(word)


def is_example(text):
    """Whether a text is a word with hyphens at some of its inner places."""
    word = text.replace("-", "")
    if len(text) > LONGEST_EXAMPLE or word == "" or "--" in text:
        return False
    if not all([letter in LETTERS for letter in word]):
        return False
    return all([is_inner(place, len(word)) for place in hyphen_places(text)])


def learn_patterns(known):
    """The patterns that are taken in all passes (step 1)."""
    patterns = []
    for level in range(1, GREATEST_LEVEL + 1):
        for length in range(1, LONGEST_RUN + 1):
            patterns = patterns + patterns_of_pass(known, patterns, level, length)
    return patterns


def patterns_of_pass(known, patterns, level, length):
    """The patterns of one level and length that are taken beside those of earlier passes."""
    right = {}
    wrong = {}
    for example in known:
        for place in open_places(example, patterns, level):
            counts = right if example.is_right(place, level) else wrong
            for candidate in candidates(example.word, place, length):
                # Both dicts get each candidate, so the order of either is that in which they come.
                right.setdefault(candidate, 0)
                wrong.setdefault(candidate, 0)
                counts[candidate] += 1
    taken = [candidate for candidate in right if level * wrong[candidate] < right[candidate]]
    return [letters[:before] + str(level) + letters[before:] for letters, before in taken]


def open_places(example, patterns, level):
    """The inner places of an example at which the patterns do not say what the level says."""
    marks = levels(patterns, example.word)
    return [place for place in example.inner_places() if (marks[place - 1] + level) % 2 == 1]


def candidates(word, place, length):
    """The candidates for a place of a word, tuples of characters and how many are before it."""
    dotted = "." + word + "."
    # The dot before the word moves the place; an inner place has room for all runs around it.
    starts = [(place + 1 - before, before) for before in range(length + 1)]
    return [(dotted[start:start + length], before) for start, before in starts]


class Entries:
    """Entries, and what they say of the inner places of the examples.

    It is counted how many entries give a place each level. So it is soon found out
    what the other entries say when one of them is left out.
    """

    def __init__(self, known, patterns):
        self.known = known
        self.texts = list(patterns)
        self.exceptions = {}
        self.counts = [[[0] * (GREATEST_LEVEL + 1) for _ in example.word] for example in known]
        self.gifts = {pattern: gifts_of(known, pattern) for pattern in patterns}
        for pattern in patterns:
            self.change_counts(pattern, 1)

    def change_counts(self, pattern, by):
        """Counts a pattern, or no longer counts it, at all places to which it gives a level."""
        for index, place, level in self.gifts[pattern]:
            self.counts[index][place][level] += by

    def is_right(self, index):
        """Whether the entries are right for the example with an index."""
        example = self.known[index]
        if example.text in self.exceptions:
            return True
        places = example.inner_places()
        return all([example.is_right(place, self.level_at(index, place)) for place in places])

    def level_at(self, index, place):
        """The greatest level that some pattern gives to a place, or 0."""
        counts = self.counts[index][place]
        return max([level for level, count in enumerate(counts) if count > 0], default=0)

    def add_exceptions(self):
        """Adds the examples for which the entries are not right (step 2)."""
        for index, example in enumerate(self.known):
            if not self.is_right(index):
                self.exceptions[example.text] = index
                self.texts.append(example.text)

    def leave_out(self):
        """Leaves out each entry that is not needed (step 3); whether there was one."""
        kept = [text for text in self.texts if not self.can_drop(text)]
        changed = len(kept) < len(self.texts)
        self.texts = kept
        return changed

    def can_drop(self, text):
        """Drops an entry if the others are right for all examples without it."""
        if text in self.exceptions:
            return self.can_drop_exception(text)
        self.change_counts(text, -1)
        touched = {index: True for index, _, _ in self.gifts[text]}
        if all([self.is_right(index) for index in touched]):
            return True
        self.change_counts(text, 1)
        return False

    def can_drop_exception(self, text):
        """Drops an exception if the patterns are right for its example."""
        index = self.exceptions[text]
        del self.exceptions[text]
        if self.is_right(index):
            return True
        self.exceptions[text] = index
        return False


def gifts_of(known, pattern):
    """What a pattern gives: tuples of the index of an example, an inner place, and a level."""
    gifts = []
    for index, example in enumerate(known):
        given = given_levels(pattern, "." + example.word + ".")
        places = example.inner_places()
        # A place of the dotted word is behind one character more than that of the word.
        gifts.extend([(index, at - 1, level) for at, level in given if level > 0 and at - 1 in places])
    return gifts
