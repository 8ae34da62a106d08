"""Points 34 to 43 word by word, to compare the program with; it looks at all ways there are."""


def is_blank(item):
    return item[0] in ("glue", "penalty", "forced")


def may_end(items, j):
    if j < 1 or j > len(items):
        return False
    if j == len(items):
        return True
    item = items[j - 1]
    if item[0] in ("penalty", "hyphen", "forced"):
        return True
    return item[0] == "glue" and item[4] and j >= 2 and not is_blank(items[j - 2])


def line_items(items, i, j):
    line = list(items[i:j])
    while line and is_blank(line[0]):
        line.pop(0)
    while line and is_blank(line[-1]):
        line.pop()
    return line


def measure(items, i, j):
    line = line_items(items, i, j)
    width = sum(item[1] for item in line if item[0] in ("box", "page", "glue"))
    if items[j - 1][0] == "hyphen":
        width += items[j - 1][1]
    glues = [item for item in line if item[0] == "glue"]
    return width, sum(glue[2] for glue in glues), sum(glue[3] for glue in glues)


def room(style, i):
    return max(0, style.width - (style.first if i == 0 else style.rest))


def badness(d, a):
    if d == 0:
        return 0
    return 10000 if a == 0 else min(10000, 100 * d ** 3 // a ** 3)


def is_loose(items, j):
    return j == len(items) or items[j - 1][0] == "forced"


def line_of(items, style, i, j):
    w, stretch, shrink = measure(items, i, j)
    t = room(style, i)
    if w <= t and is_loose(items, j):
        return 0, 1
    if w <= t and style.justify:
        b = badness(t - w, stretch)
        return b, 1 if b <= 12 else 2 if b <= 99 else 3
    if w <= t:
        return badness(t - w, style.rag), 1
    if style.justify and w - t <= shrink:
        b = badness(w - t, shrink)
        return b, 1 if b <= 12 else 0
    return None


def is_one_piece(items, i, j):
    def is_solid(first, last):
        return any(item[0] in ("box", "page") for item in line_items(items, first, last))
    return not any(may_end(items, m) and is_solid(i, m) and is_solid(m, j) for m in range(i + 1, j))


def line_move(items, style, i, k, j):
    if not may_end(items, j) or any(item[0] == "forced" for item in items[i:j - 1]):
        return None
    last = items[j - 1]
    h = 1 if last[0] == "hyphen" else 0
    line = line_of(items, style, i, j)
    if line is None:
        return (2 + h, (1, 0, 0)) if is_one_piece(items, i, j) else None
    b, c = line
    points = (10 + b) ** 2
    if last[0] == "penalty":
        points += last[1] ** 2
    if last[0] == "hyphen":
        points += last[3] ** 2
    if k % 2 and h:
        points += 3000
    if abs(c - k // 2) > 1:
        points += 3000
    return 2 * c + h, (0, int(b > style.tolerance), points)


def all_ways(items, style, start=0, key=2):
    """All ways from a stop to the end, as tuples (cost, way)."""
    if start == len(items):
        return [((0, 0, 0), ())]
    found = []
    for end in range(start + 1, len(items) + 1):
        move = line_move(items, style, start, key, end)
        if move is not None:
            for cost, way in all_ways(items, style, end, move[0]):
                total = tuple(one + other for one, other in zip(cost, move[1]))
                found.append((total, ((end, move[0]),) + way))
    return found


def break_lines(items, style):
    cost, way = min(all_ways(items, style))
    return [end for end, _ in way], cost


def shares(amount, weights):
    total = sum(weights)
    if total == 0:
        return [0] * len(weights)
    return [
        sum(weights[:k + 1]) * amount // total - sum(weights[:k]) * amount // total for k in range(len(weights))
    ]


def set_line(items, style, i, j):
    line = line_items(items, i, j)
    w, _, shrink = measure(items, i, j)
    t = room(style, i)
    widths = [item[1] if item[0] in ("box", "page", "glue") else 0 for item in line]
    hyphen = items[j - 1][1] if items[j - 1][0] == "hyphen" else 0
    if not style.justify or (w <= t and is_loose(items, j)):
        return widths, hyphen
    if w <= t:
        parts = shares(t - w, [item[2] if item[0] == "glue" else 0 for item in line])
        return [width + part for width, part in zip(widths, parts)], hyphen
    parts = shares(min(w - t, shrink), [item[3] if item[0] == "glue" else 0 for item in line])
    return [width - part for width, part in zip(widths, parts)], hyphen


def needs(items):
    """The least width by trying all widths, and the widest one."""
    n = len(items)
    if n == 0:
        return 0, 0
    forced = [j for j in range(1, n + 1) if is_loose(items, j)]
    widest = max(measure(items, i, j)[0] for i, j in zip([0] + forced, forced))
    widths = sorted({measure(items, i, j)[0] for i in range(n) for j in range(i + 1, n + 1)})
    return next(width for width in widths if fits_in(items, width)), widest


def fits_in(items, width):
    """Whether a text can be set in a width."""
    reached = {0}
    for j in range(1, len(items) + 1):
        for i in sorted(reached):
            if may_end(items, j) and not any(item[0] == "forced" for item in items[i:j - 1]):
                if measure(items, i, j)[0] <= width:
                    reached.add(j)
    return len(items) in reached


def some_items(numbers, most):
    """Items of all kinds, in an order in which they hardly ever stand in a real text."""
    def one():
        kind = numbers.choice(("box", "box", "box", "glue", "glue", "glue", "hyphen", "penalty", "page", "forced", "label"))
        if kind == "box":
            return ("box", numbers.randint(0, 30), numbers.randint(0, 2), (97,))
        if kind == "page":
            return ("page", numbers.randint(0, 20), numbers.randint(0, 2), 2, "x")
        if kind == "glue":
            width = numbers.randint(0, 10)
            return ("glue", width, numbers.randint(0, 12), numbers.randint(0, width), numbers.random() < 0.8)
        if kind == "hyphen":
            return ("hyphen", numbers.randint(0, 8), numbers.randint(0, 2), numbers.randint(0, 60))
        if kind == "penalty":
            return ("penalty", numbers.randint(0, 60))
        if kind == "forced":
            return ("forced",)
        return numbers.choice((("label", "y"), ("note", 0)))
    return [one() for _ in range(numbers.randint(0, most))]


def some_style(numbers, made):
    """A line style, of the class that is given."""
    return made(
        width=numbers.randint(0, 70), first=numbers.choice((0, 0, 5, 80)), rest=numbers.choice((0, 0, 7, 90)),
        justify=numbers.random() < 0.6, tolerance=numbers.choice((0, 50, 200, 10000)), rag=numbers.randint(0, 40),
    )
