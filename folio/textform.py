"""The text form of pages (point 86)."""

from folio.errors import BadDrawing

DIGITS = "0123456789"
MOST_DIGITS = 60
LEAST_NUMBERS_OF_TEXT = 3
NUMBERS_OF_RULE = 4


def page_text(draws):
    """The text form of a list of drawn texts and rules."""
    return text_of_draws(draws)


def text_of_draws(draws):
    """The text form of drawn texts and rules, under a name that no method has."""
    return "\n".join([line_of_draw(draw) for draw in draws])


def line_of_draw(draw):
    """The line of the text form for one drawn thing."""
    if draw[0] == "text":
        numbers = [*draw[1:4], *draw[4]]
    else:
        numbers = draw[1:]
    sign = "t" if draw[0] == "text" else "r"
    return " ".join([sign] + [str(number) for number in numbers])


def read_page(text):
    """The list of the drawn things of a text form."""
    if text == "":
        return []
    found = []
    for index, line in enumerate(text.split("\n")):
        draw = draw_of_line(line)
        if draw is None:
            raise BadDrawing(index + 1)
        found.append(draw)
    return found


def draw_of_line(line):
    """The drawn thing of a line of a text form, or None if it has none of the forms."""
    sign, *words = line.split(" ")
    if not all([is_number(word) for word in words]):
        return None
    numbers = [int(word) for word in words]
    if sign == "t" and len(numbers) >= LEAST_NUMBERS_OF_TEXT:
        return ("text", *numbers[:3], tuple(numbers[3:]))
    if sign == "r" and len(numbers) == NUMBERS_OF_RULE:
        return ("rule", *numbers)
    return None


def is_number(word):
    """Whether a word is a number in decimal digits, without leading zeros."""
    if word == "" or len(word) > MOST_DIGITS or not all([sign in DIGITS for sign in word]):
        return False
    return word == "0" or word[0] != "0"
