"""What a book tells of its blocks: the outline, the index of terms, and places (points 81 to 83)."""

from folio.counting import is_term, label_numbers, numbers_of_blocks, own_labels
from folio.pagetables import floats_of
from folio.rounds import labels_on_pages


def outline_of(blocks, label_pages):
    """Tuples (level, number, title, page) of all headings, in order."""
    given = label_numbers(blocks)
    found = []
    for block, numbers, label in zip(blocks, numbers_of_blocks(blocks), own_labels(blocks)):
        if label is not None:
            title = title_of(block[1], given, label_pages)
            found.append((block[0][1], numbers.own, title, label_pages[label]))
    return found


def title_of(pieces, given, label_pages):
    """The title of a heading, for the numbers and the pages of labels (point 81)."""
    title = ""
    for piece in pieces:
        kind = piece[0]
        if kind == "run":
            title += piece[2]
        elif kind in ("space", "tie", "line"):
            title += " "
        elif kind == "number":
            title += given[piece[2]]
        elif kind == "page":
            title += str(label_pages[piece[2]])
    return title.strip(" ")


def index_of_terms(set_blocks, items, pages):
    """Tuples (term, ranges) of the index terms on pages, in ascending order (point 82)."""
    found = {}
    for number, label in labels_on_pages(set_blocks, items, pages):
        if is_term(label):
            found.setdefault(label[1:], []).append(number)
    return [(term, ranges_of(found[term])) for term in sorted(found)]


def ranges_of(numbers):
    """Ranges (first, last) of neighbors among numbers in ascending order, of which some may be equal."""
    found = []
    for number in numbers:
        if found and number <= found[-1][1] + 1:
            found[-1] = (found[-1][0], number)
        else:
            found.append((number, number))
    return found


def places_in(number, set_blocks, items, pages):
    """The places (page, first, last) of the block with this number (point 83)."""
    floats = floats_of(items)
    found = []
    for index, (start, end, first, last, _) in enumerate(pages):
        lines = [item[2] for item in items[start:end] if item[0] == "line" and item[1] == number]
        for item in floats[first:last]:
            if item[1] == number:
                lines = list(range(len(set_blocks[number][0])))
        if lines:
            found.append((index + 1, lines[0], lines[-1]))
    return found
