"""Points 59 to 63 word by word, to compare the program with; it looks at all ways there are."""


def page_items(style, blocks):
    found = []
    for number, (lines, heads, is_float, ends_page, keeps_next) in enumerate(blocks):
        if is_float:
            found.append(("float", number, sum(line[0] for line in lines)))
            continue
        for l, (height, _, notes, _) in enumerate(lines):
            if l > 0:
                points = (style.orphan if l - 1 == 0 else 0) + (style.widow if l - 1 == len(lines) - 2 else 0)
                found.append(("penalty", points))
            head = 0 if l < heads else sum(line[0] for line in lines[:heads])
            found.append(("line", number, l, height, sum(note[0] for note in notes), head))
        if ends_page:
            found.append(("end",))
        elif lines:
            found.append(("space", style.gap, not keeps_next))
    return found


def floats(items):
    return [item for item in items if item[0] == "float"]


def may_end(items, j):
    if j < 1 or j > len(items):
        return False
    if j == len(items) or items[j - 1][0] in ("penalty", "end"):
        return True
    before = [item for item in items[:j - 1] if item[0] != "float"]
    return items[j - 1][0] == "space" and items[j - 1][2] and before != [] and before[-1][0] == "line"


def is_possible(items, i, j):
    return may_end(items, j) and all(item[0] != "end" for item in items[i:j - 1])


def content(items, i, j):
    found = [item for item in items[i:j] if item[0] != "float"]
    while found and found[0][0] != "line":
        found.pop(0)
    while found and found[-1][0] != "line":
        found.pop()
    return found


def parts(style, items, i, j, a, b):
    """The heights of lines and space, of the head, of the notes and of the floats of a page."""
    page = content(items, i, j)
    lines = sum(item[3] for item in page if item[0] == "line") + sum(item[1] for item in page if item[0] == "space")
    head = page[0][5] if page else 0
    notes = sum(item[4] for item in page if item[0] == "line")
    if notes:
        notes += style.note_gap
    return lines, head, notes, sum(item[2] + style.float_gap for item in floats(items)[a:b])


def is_one_piece(items, i, j):
    return not any(may_end(items, m) and content(items, i, m) and content(items, m, j) for m in range(i + 1, j))


def move(style, items, i, a, j, b):
    if not 0 <= i < j <= len(items) or not 0 <= a <= len(floats(items[:i])) or not is_possible(items, i, j):
        return None
    behind = len(floats(items[:j]))
    used = sum(parts(style, items, i, j, a, b))
    if a <= b <= behind and used <= style.height:
        worse = 1 if not content(items, i, j) and a == b else 0
        points = style.wait * (behind - b)
        if j != len(items) and items[j - 1][0] != "end":
            points += ((style.height - used) * 100 // style.height) ** 2
        if items[j - 1][0] == "penalty":
            points += items[j - 1][1]
        return (0, worse, points)
    if b == a and used > style.height and is_one_piece(items, i, j):
        return (1, 0, style.wait * (behind - a))
    return None


def all_ways(style, items, end):
    """All ways from the start to a position, as tuples (cost, way)."""
    ways = {(0, 0): [((0, 0, 0), ())]}
    for j in range(1, end + 1):
        for b in range(len(floats(items[:j])) + 1):
            found = []
            for (i, a), before in list(ways.items()):
                cost = move(style, items, i, a, j, b)
                if cost is not None:
                    for total, way in before:
                        found.append((tuple(x + y for x, y in zip(total, cost)), way + ((j, b),)))
            if found:
                ways[j, b] = found
    return ways


def rows(style, items):
    ways = all_ways(style, items, len(items))
    found = []
    for j in range(len(items) + 1):
        found.append([(b, *min(ways[j, b])) for b in range(len(floats(items)) + 1) if (j, b) in ways])
    return found


def pages(style, items, way):
    found, i, a = [], 0, 0
    for j, b in way:
        if content(items, i, j) or a < b or items[j - 1] == ("end",):
            found.append((i, j, a, b, move(style, items, i, a, j, b)))
        i, a = j, b
    left = floats(items)
    while a < len(left):
        b = a + 1
        while b < len(left) and sum(item[2] + style.float_gap for item in left[a:b + 1]) <= style.height:
            b += 1
        found.append((len(items), len(items), a, b, None))
        a = b
    return found


def some_blocks(numbers, most):
    """Set blocks of which only the heights are as they can be."""
    def line():
        notes = tuple((numbers.choice((0, 3, 8)), ()) for _ in range(numbers.choice((0, 0, 0, 1, 2))))
        return (numbers.choice((0, 5, 10, 10, 10, 25)), (), notes, ())

    def block():
        lines = tuple(line() for _ in range(numbers.choice((0, 1, 1, 2, 2, 3, 4))))
        kind = numbers.choice(("text", "text", "text", "head", "end", "float", "table"))
        heads = min(numbers.randint(1, 2), max(0, len(lines) - 1)) if kind == "table" else 0
        return (lines, heads, kind == "float", kind == "end", kind == "head")

    return [block() for _ in range(numbers.randint(0, most))]


def some_items(numbers, most):
    """Items in an order in which they hardly ever come from blocks."""
    def item(number):
        kind = numbers.choice(("line", "line", "line", "penalty", "space", "space", "float", "end"))
        if kind == "line":
            notes = numbers.choice((0, 0, 4))
            return ("line", 0, number, numbers.choice((0, 5, 10, 20)), notes, numbers.choice((0, 0, 0, 6, 30)))
        if kind == "penalty":
            return ("penalty", numbers.choice((0, 40, 500)))
        if kind == "space":
            return ("space", numbers.choice((0, 3, 9)), numbers.random() < 0.7)
        return ("end",) if kind == "end" else ("float", 1, numbers.choice((0, 5, 12, 40)))

    return [item(number) for number in range(numbers.randint(0, most))]


def some_style(numbers, style_class, font):
    return style_class(
        width=50, height=numbers.choice((10, 20, 30, 47)), fonts=[font], gap=numbers.choice((0, 2, 5)),
        note_gap=numbers.choice((0, 1, 4)), float_gap=numbers.choice((0, 3)), orphan=numbers.choice((0, 50, 7)),
        widow=numbers.choice((0, 30, 900)), wait=numbers.choice((0, 10, 1000)),
    )
