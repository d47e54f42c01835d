"""The text of a web: a line for its places, then one for each tie."""

from closedrings.errors import NoText, NoWeb
from closedrings.webs import made_web

DIGITS = "0123456789"
MOST_DIGITS = 2


def show_web(web):
    """The text of a web."""
    many, ties = web
    lines = [f"places {many}\n"]
    for a, b in ties:
        lines.append(f"tie {a} {b}\n")
    return "".join(lines)


def number_in(word):
    # The length comes first: int() fails on words of thousands of digits.
    if not 1 <= len(word) <= MOST_DIGITS:
        raise NoText()
    for sign in word:
        if sign not in DIGITS:
            raise NoText()
    return int(word)


def numbers_in(line, name, size):
    """The numbers of a line that has its name and so many of them."""
    words = line.split(" ")
    if words[0] != name or len(words) != size + 1:
        raise NoText()
    return [number_in(word) for word in words[1:]]


def web_in(lines):
    many = numbers_in(lines[0], "places", 1)[0]
    pairs = [numbers_in(line, "tie", 2) for line in lines[1:]]
    try:
        return made_web(many, pairs)
    except NoWeb:
        raise NoText() from None


def read_web(thing):
    """The web whose text the thing is."""
    if not isinstance(thing, str) or not thing.endswith("\n"):
        raise NoText()
    web = web_in(thing.split("\n")[:-1])
    # made_web takes ties in any order, and int() needless noughts: the web's own text has neither.
    if show_web(web) != thing:
        raise NoText()
    return web
