"""A source text, read from left to right."""

from folio.errors import BadText

BLANKS = (" ", "\n")


class Source:
    """A source text, and how much of it has been read."""

    def __init__(self, text):
        self.text = text
        self.at = 0

    def here(self):
        """The next character, or the empty text at the end."""
        return self.text[self.at:self.at + 1]

    def behind(self):
        """The character behind the next one, or the empty text."""
        return self.text[self.at + 1:self.at + 2]

    def step(self):
        """Goes on behind the next character."""
        self.at += 1

    def skip_blanks(self):
        """Goes on behind blanks."""
        while self.here() in BLANKS:
            self.step()

    def skip_spaces(self):
        """Goes on behind blanks in the same line."""
        while self.here() == " ":
            self.step()

    def is_line_over(self):
        """Whether the line, or the whole text, ends here."""
        return self.here() in ("", "\n")

    def expect_space(self):
        """Fails unless a blank follows or the text ends."""
        if self.here() != "" and self.here() not in BLANKS:
            self.fail("space is expected")

    def fail(self, what):
        """Raises BadText for the next character, or for the end of the text (point 18)."""
        before = self.text[:self.at]
        line = before.count("\n") + 1
        column = len(before) - before.rfind("\n")
        raise BadText(line, column, what)
