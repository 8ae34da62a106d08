"""Layouts, which are made in rounds (points 72 to 76)."""

from folio.blocks import set_block
from folio.counting import label_numbers
from folio.pages import first_rows, page_ends, page_items, page_rows, pages_of
from folio.pagetables import PageTables, floats_of
from folio.ready import LEAST_ROOM, ready_blocks


def rows_to_take(items, kept):
    """How many rows can be taken over from a table with the items kept (point 75)."""
    common = 0
    shorter = min(len(items), len(kept))
    while common < shorter and items[common] == kept[common]:
        common += 1
    if common < shorter or len(items) == len(kept):
        return common + 1
    return max(1, common)


def pages_of_labels(blocks, items, pages):
    """A dict from labels to the numbers of the pages on which they are."""
    found = {}
    for number, label in labels_on_pages(blocks, items, pages):
        found.setdefault(label, number)
    return found


def labels_on_pages(blocks, items, pages):
    """Tuples of the number of a page and a label on it, page by page, floats before lines."""
    floats = floats_of(items)
    found = []
    for index, (start, end, first, last, _) in enumerate(pages):
        lines = []
        for item in floats[first:last]:
            lines.extend(blocks[item[1]][0])
        for item in items[start:end]:
            if item[0] == "line":
                lines.append(blocks[item[1]][0][item[2]])
        found.extend([(index + 1, label) for line in lines for label in line[3]])
    return found


class Layout:
    """A layout of blocks, and what is kept of it for the next one."""

    def __init__(self, style, blocks, set_before, tables_before):
        self.style = style
        self.blocks = tuple(blocks)
        self.numbers = label_numbers(blocks)
        # The set blocks by their ready blocks, and the tables of rows, tuples (items, rows).
        self.kept_blocks = {}
        self.kept_tables = []
        self.rounds = 0
        self.blocks_set = 0
        self.rows_made = 0
        self.make_rounds(set_before, tables_before)
        self.tables = PageTables(style, self.parts)

    def make_rounds(self, set_before, tables_before):
        """Makes rounds until each page number has enough room."""
        rooms = {}
        wanted = {}
        while self.rounds == 0 or wanted != rooms:
            rooms = wanted
            self.make_round(rooms, set_before, tables_before)
            wanted = wider_rooms(rooms, self.label_pages)

    def make_round(self, rooms, set_before, tables_before):
        """Makes a round with these rooms."""
        self.rounds += 1
        ready = ready_blocks(self.blocks, rooms)
        self.set_blocks = [self.set_once(block, set_before) for block in ready]
        self.parts = page_items(self.style, self.set_blocks)
        rows = self.rows_of_round(self.parts, tables_before + self.kept_tables)
        self.kept_tables.append((self.parts, rows))
        self.cost, self.way = page_ends(rows)
        self.sheets = pages_of(self.style, self.parts, self.way)
        self.label_pages = pages_of_labels(self.set_blocks, self.parts, self.sheets)

    def set_once(self, ready, set_before):
        """The set block of a ready block, which is only made if none is kept."""
        if ready not in self.kept_blocks:
            if ready in set_before:
                self.kept_blocks[ready] = set_before[ready]
            else:
                self.kept_blocks[ready] = set_block(self.style, ready)
                self.blocks_set += 1
        return self.kept_blocks[ready]

    def rows_of_round(self, parts, tables):
        """The rows for items of pages, as many as possible taken over from tables."""
        taken = first_rows()
        for kept, rows in tables:
            count = rows_to_take(parts, kept)
            if count > len(taken):
                taken = rows[:count]
        self.rows_made += len(parts) + 1 - len(taken)
        return page_rows(self.style, parts, taken)


def wider_rooms(rooms, label_pages):
    """The rooms for the page numbers of labels; only those of more than one figure are listed."""
    found = {label: rooms[label] for label in rooms}
    for label in label_pages:
        figures = len(str(label_pages[label]))
        if figures > found.get(label, LEAST_ROOM):
            found[label] = figures
    return found
