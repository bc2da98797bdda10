"""Texts: ways written in words, and read again."""

from escaperow.errors import BadText
from escaperow.ways import need_way, unturned

MOST_FIGURES = 3
# How many numbers stand behind the first word, ahead of the codes or pairs.
NUMBERS = {"codes": 2, "escapes": 3, "counts": 3, "ranks": 2}


def written(way):
    """The text in which the way is written."""
    need_way(way)
    turnings, inner = unturned(way)
    words = []
    for signs in turnings:
        words.extend(["turned", dotted(signs)])
    return " ".join(words + inner_words(inner))


def read_way(text):
    """The way that is written in the text."""
    words = text.split(" ")
    turnings = []
    at = 0
    while words[at] == "turned" and at + 2 < len(words):
        turnings.append(signs_in(words[at + 1]))
        at += 2
    way = inner_in(words[at:])
    for signs in reversed(turnings):
        way = ("turned", signs, way)
    need_way(way)
    return way


def inner_words(way):
    """The words of a way that is not turned."""
    sort = way[0]
    many = 1 + NUMBERS[sort]
    words = [sort] + [str(number) for number in way[1:many]]
    if sort == "codes":
        words.extend([dotted(code) for code in way[many]])
    if sort == "escapes":
        words.extend([f"{sign}:{code}" for sign, code in way[many]])
    return words


def inner_in(words):
    """The way that is not turned and is written in these words."""
    sort = words[0]
    if sort not in NUMBERS:
        raise BadText("a way is codes, escapes, counts, ranks or turned")
    many = 1 + NUMBERS[sort]
    if len(words) < many:
        raise BadText("a number is left out")
    numbers = [number_in(word) for word in words[1:many]]
    more = words[many:]
    if sort == "codes":
        return (sort, *numbers, tuple([signs_in(word) for word in more]))
    if sort == "escapes":
        return (sort, *numbers, tuple([pair_in(word) for word in more]))
    if more:
        raise BadText("there are words behind the last number")
    return (sort, *numbers)


def dotted(signs):
    """The signs with dots between."""
    return ".".join([str(sign) for sign in signs])


def signs_in(word):
    """The signs of a word that has dots between them."""
    return tuple([number_in(part) for part in word.split(".")])


def pair_in(word):
    """The sign and the code of a word that has a colon between them."""
    parts = word.split(":")
    if len(parts) != 2:
        raise BadText("a pair has one colon")
    return (number_in(parts[0]), number_in(parts[1]))


def number_in(word):
    """The number that is the word."""
    if not all([letter in "0123456789" for letter in word]) or not 1 <= len(word) <= MOST_FIGURES:
        raise BadText("a number has one to three figures")
    if word[0] == "0" and len(word) > 1:
        raise BadText("a number has a needless 0")
    return int(word)
