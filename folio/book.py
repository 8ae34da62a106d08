"""Books: blocks that are edited, laid out and drawn (points 77 to 85)."""

from folio.answers import index_of_terms, outline_of, places_in
from folio.counting import label_fault
from folio.drawing import draw_page, heights_of_page
from folio.errors import (
    BadPlace, LabelFault, NoSuchBlock, NoSuchLabel, NoSuchPage, NotLaidOut, TooManyBlocks,
)
from folio.pages import cost_of_pages
from folio.reading import read
from folio.rounds import Layout
from folio.textform import text_of_draws

MOST_BLOCKS = 40
MOST_EARLIER = 32


class Book:
    """A list of source texts, and the pages on which they are laid out in a style."""

    def __init__(self, style):
        self._style = style
        # Tuples (text, block) of the sources with the blocks that are read from them.
        self._sources = []
        self._earlier = []
        self._later = []
        # The last layout, of which much can be used again, and whether it still holds.
        self._last = None
        self._is_laid_out = False

    def insert_block(self, place, text):
        """Inserts a block before the one at a place, or behind all blocks."""
        if not 0 <= place <= len(self._sources):
            raise BadPlace(f"no block can be inserted at the place {place}")
        source = (text, read(text))
        if len(self._sources) >= MOST_BLOCKS:
            raise TooManyBlocks(f"a book has at most {MOST_BLOCKS} blocks")
        self._change(self._sources[:place] + [source] + self._sources[place:])

    def replace_block(self, place, text):
        """Puts a block in the place of another one."""
        self._check_place(place)
        source = (text, read(text))
        self._change(self._sources[:place] + [source] + self._sources[place + 1:])

    def remove_block(self, place):
        """Removes a block."""
        self._check_place(place)
        self._change(self._sources[:place] + self._sources[place + 1:])

    def move_block(self, place, target):
        """Moves a block so that its place is the target."""
        self._check_place(place)
        self._check_place(target)
        others = self._sources[:place] + self._sources[place + 1:]
        self._change(others[:target] + [self._sources[place]] + others[target:])

    def _check_place(self, place):
        """Raises BadPlace if there is no block at a place."""
        if not 0 <= place < len(self._sources):
            raise BadPlace(f"there is no block at the place {place}")

    def _change(self, sources):
        """Goes on with other sources behind a change."""
        self._remember()
        self._later = []
        self._go_on_with(sources)

    def _remember(self):
        """Adds the sources to the earlier ones, of which the oldest are dropped."""
        self._earlier = (self._earlier + [self._sources])[-MOST_EARLIER:]

    def _go_on_with(self, sources):
        """Takes other sources, which are not laid out."""
        self._sources = sources
        self._is_laid_out = False

    def undo(self):
        """Returns to the sources before the last change; tells whether there are any."""
        if not self._earlier:
            return False
        self._later.append(self._sources)
        self._go_on_with(self._earlier.pop())
        return True

    def redo(self):
        """Returns to the sources before the last undoing; tells whether there are any."""
        if not self._later:
            return False
        self._remember()
        self._go_on_with(self._later.pop())
        return True

    def sources(self):
        """The list of the sources."""
        return [text for text, _ in self._sources]

    def layout(self):
        """Lays the book out; returns how much there is of pages, rounds, set blocks and made rows."""
        blocks = [block for _, block in self._sources]
        fault = label_fault(blocks)
        if fault is not None:
            raise LabelFault(fault[0], fault[1], fault[2])
        last = self._last
        if last is None:
            found = Layout(self._style, blocks, {}, [])
        else:
            found = Layout(self._style, blocks, last.kept_blocks, last.kept_tables)
        self._last = found
        self._is_laid_out = True
        return (len(found.sheets), found.rounds, found.blocks_set, found.rows_made)

    def is_laid_out(self):
        """Whether the book is laid out."""
        return self._is_laid_out

    def _laid_out(self):
        """The layout of the book as it is; raises NotLaidOut if there is none."""
        if not self._is_laid_out:
            raise NotLaidOut("the book is not laid out")
        return self._last

    def page_count(self):
        """The number of pages."""
        return len(self._laid_out().sheets)

    def page(self, number):
        """The height of a page, and the list of what is drawn on it."""
        found = self._laid_out()
        if not 1 <= number <= len(found.sheets):
            raise NoSuchPage(f"there is no page {number}")
        sheet = found.sheets[number - 1]
        return draw_page(found.set_blocks, found.tables, sheet, found.label_pages)

    def page_text(self, number):
        """The text form of a page."""
        return text_of_draws(self.page(number)[1])

    def number_of(self, label):
        """The number of a label, a text."""
        numbers = self._laid_out().numbers
        if label not in numbers:
            raise NoSuchLabel(f"no block gives the label {label}")
        return numbers[label]

    def page_of(self, label):
        """The page of a label."""
        found = self._laid_out()
        # Index terms and the labels of headings' own have pages, too.
        if label not in found.numbers:
            raise NoSuchLabel(f"no block gives the label {label}")
        return found.label_pages[label]

    def outline(self):
        """The list of tuples (level, number, title, page) of all headings."""
        found = self._laid_out()
        return outline_of(found.blocks, found.label_pages)

    def term_index(self):
        """The list of tuples (term, ranges) of all index terms."""
        found = self._laid_out()
        return index_of_terms(found.set_blocks, found.parts, found.sheets)

    def all_items(self):
        """The list of the items of pages."""
        return list(self._laid_out().parts)

    def all_ends(self):
        """The list of the stops of the chosen way."""
        return list(self._laid_out().way)

    def total_cost(self):
        """The cost of the chosen way."""
        return self._laid_out().cost

    def page_costs(self):
        """The list of tuples (start, end, first, last, lines, head, notes, floats, cost) of all pages."""
        found = self._laid_out()
        return [sheet[:4] + heights_of_page(found.tables, sheet) + (sheet[4],) for sheet in found.sheets]

    def cost_of(self, ends):
        """The cost of a way, given as a list of stops, or None if there is no such way."""
        return cost_of_pages(self._style, self._laid_out().parts, ends)

    def places_of(self, block):
        """The list of the places of the block with this number."""
        found = self._laid_out()
        if not 0 <= block < len(found.set_blocks):
            raise NoSuchBlock(f"there is no block {block}")
        return places_in(block, found.set_blocks, found.parts, found.sheets)
