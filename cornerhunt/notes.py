"""Lines: a web written as a list of texts, and read back."""

from cornerhunt.errors import BadLine, BadTie, BadWeb, NoPoint
from cornerhunt.webs import Web

FIGURES = "0123456789"
HEAD = "points"
MOST_FIGURES = 2


def web_lines(web):
    """Tell the lines of a web: its number of points, then its ties, rising."""
    return [f"{HEAD} {web.many()}"] + [f"{low} {high}" for low, high in web.ties()]


def web_of(lines):
    """Tell the web that these lines write."""
    if type(lines) is not list or not lines:
        raise BadLine(0)
    web = read_head(lines[0])
    for place, line in enumerate(lines[1:], start=1):
        read_tie(web, line, place)
    return web


def read_head(line):
    """Tell a web of as many points as the first line says."""
    head, many = two_words(line, 0)
    if head != HEAD:
        raise BadLine(0)
    try:
        return Web(number_of(many))
    except BadWeb:
        raise BadLine(0) from None


def read_tie(web, line, place):
    """Put the tie of this line into the web."""
    one, other = two_words(line, place)
    try:
        web.tie(number_of(one), number_of(other))
    except (NoPoint, BadTie):
        raise BadLine(place) from None


def two_words(line, place):
    """Tell the two words of a line, with one blank between them."""
    if type(line) is not str:
        raise BadLine(place)
    words = line.split(" ")
    if len(words) != 2:
        raise BadLine(place)
    return words[0], words[1]


def number_of(word):
    """Tell the number that these figures write, or None, which no web takes for a number."""
    if not 1 <= len(word) <= MOST_FIGURES:
        return None
    # Not isdigit, which takes figures of other scripts, too.
    if not all([sign in FIGURES for sign in word]):
        return None
    if word[0] == "0" and word != "0":
        return None
    return int(word)
