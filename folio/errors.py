"""The errors that the program raises."""


class FolioError(ValueError):
    """The base class of all errors of the program."""


class BadText(FolioError):
    """A source text has a fault at a line and a column, both counted from 1."""

    def __init__(self, line, column, what):
        super().__init__(f"line {line}, column {column}: {what}")
        self.line = line
        self.column = column
        self.what = what


class BadFont(FolioError):
    """A font is out of its bounds."""


class BadStyle(FolioError):
    """A style is out of its bounds."""


class BadPlace(FolioError):
    """A book has no such place for a block."""


class TooManyBlocks(FolioError):
    """A book has no room for another block."""


class NotLaidOut(FolioError):
    """A book is asked about its layout before it is laid out."""


class NoSuchLabel(FolioError):
    """No block gives the label."""


class NoSuchPage(FolioError):
    """A layout has no page with the number."""


class NoSuchBlock(FolioError):
    """A book has no block with the number."""


class BadEntry(FolioError):
    """The entry with the index `at` is neither an exception nor a pattern."""

    def __init__(self, at):
        super().__init__(f"the entry {at} is neither an exception nor a pattern")
        self.at = at


class BadDemand(FolioError):
    """The demand with the index `at` goes beyond the columns."""

    def __init__(self, at):
        super().__init__(f"the demand {at} goes beyond the columns")
        self.at = at


class BadExample(FolioError):
    """The example with the index `at` cannot be learned from."""

    def __init__(self, at, what):
        super().__init__(f"example {at}: {what}")
        self.at = at
        self.what = what


class LabelFault(FolioError):
    """A label of a block is given twice, or a reference cannot be resolved."""

    def __init__(self, block, label, what):
        super().__init__(f"block {block}, label {label}: {what}")
        self.block = block
        self.label = label
        self.what = what


class BadDrawing(FolioError):
    """A line of a text form, counted from 1, draws neither a text nor a rule."""

    def __init__(self, line):
        super().__init__(f"line {line} draws neither a text nor a rule")
        self.line = line
