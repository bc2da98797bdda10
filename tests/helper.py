"""What the tests share: ways and bodies to try, and frames worked out anew from the document's words.

Nothing here uses the package, so that a fault of the package cannot hide in what the tests expect.
"""

from itertools import product


class Dice:
    """Numbers that look thrown, yet are the same in each run."""

    def __init__(self, seed):
        self.state = seed * 2654435761 + 12345

    def below(self, many):
        self.state = (self.state * 6364136223846793005 + 1442695040888963407) % 2 ** 64
        return (self.state >> 33) % many

    def pick(self, row):
        return row[self.below(len(row))]

    def shuffled(self, row):
        left = list(row)
        return [left.pop(self.below(len(left))) for _ in range(len(left))]

    def signs(self, letters, many):
        return [self.pick(letters) for _ in range(many)]


def inner_of(way):
    return inner_of(way[2]) if way[0] == "turned" else way


def top_of(way):
    return inner_of(way)[1]


def end_of(way):
    return inner_of(way)[2]


def plain_of(top, end):
    return list(range(end)) + list(range(end + 1, top))


# Frames, put together as point 4 says.

def expected_frame(way, body):
    """The frame of a list of signs, of any number of them."""
    sort = way[0]
    if sort == "turned":
        return expected_frame(way[2], [way[1][sign] for sign in body])
    row = {"codes": codes_row, "escapes": escapes_row, "counts": counts_row, "ranks": ranks_row}[sort](way, body)
    return row + [way[2]]


def codes_row(way, body):
    return sum([list(way[3][sign]) for sign in body], [])


def escapes_row(way, body):
    _, _, _, mark, pairs = way
    return sum([next(([mark, code] for other, code in pairs if other == sign), [sign]) for sign in body], [])


def counts_row(way, body):
    _, top, end, limit = way
    plain = plain_of(top, end)
    ends = [at for at, sign in enumerate(body) if sign == end]
    starts = [0] + [at + 1 for at in ends]
    rows = [body[start:stop] for start, stop in zip(starts, ends + [len(body)])]
    told = []
    for at, row in enumerate(rows):
        whole, left = divmod(len(row), limit - 1)
        for group in range(whole):
            told += [plain[limit - 1]] + row[group * (limit - 1):(group + 1) * (limit - 1)]
        left_out = at == len(rows) - 1 and left == 0 and whole > 0
        if not left_out:
            told += [plain[left]] + row[len(row) - left:]
    return told


def ranks_row(way, body):
    _, top, end = way
    shorter = sum(top ** many for many in range(len(body)))
    number = shorter + sum(sign * top ** at for at, sign in enumerate(reversed(body)))
    plain = plain_of(top, end)
    many = 0
    while number >= len(plain) ** many:
        number -= len(plain) ** many
        many += 1
    return [plain[number // len(plain) ** at % len(plain)] for at in reversed(range(many))]


# Bodies, found by going along the list and leaving off at the first thing that no frame has.

def expected_body(way, signs):
    """The body of which a list of signs is the frame, or None."""
    if way[0] == "turned":
        within = expected_body(way[2], signs)
        return None if within is None else [way[1].index(sign) for sign in within]
    if not signs or signs[-1] != way[2] or way[2] in signs[:-1]:
        return None
    find = {"codes": pieces_body, "escapes": pieces_body, "counts": counts_body, "ranks": ranks_body}[way[0]]
    body = find(way, signs[:-1])
    return None if body is None or len(body) > 60 else body


def pieces_body(way, row):
    """By codes and escapes: there is at most one sign whose piece can come next."""
    pieces = [expected_frame(way, [sign])[:-1] for sign in range(way[1])]
    body = []
    at = 0
    while at < len(row):
        fitting = [sign for sign, piece in enumerate(pieces) if row[at:at + len(piece)] == piece]
        if not fitting:
            return None
        body += fitting
        at += len(pieces[fitting[0]])
    return body


def counts_body(way, row):
    _, top, end, limit = way
    plain = plain_of(top, end)
    groups = []
    at = 0
    while at < len(row):
        count = plain.index(row[at]) + 1
        if count > limit or at + count > len(row):
            return None
        groups.append(row[at + 1:at + count])
        at += count
    if not groups or (len(groups) > 1 and groups[-1] == [] and len(groups[-2]) == limit - 1):
        return None
    body = []
    for at, group in enumerate(groups):
        body += group
        if len(group) < limit - 1 and at < len(groups) - 1:
            body.append(end)
    return body


def ranks_body(way, row):
    _, top, end = way
    plain = plain_of(top, end)
    number = sum(len(plain) ** many for many in range(len(row)))
    number += sum(plain.index(sign) * len(plain) ** at for at, sign in enumerate(reversed(row)))
    many = 0
    while number >= top ** many:
        number -= top ** many
        many += 1
    return [number // top ** at % top for at in reversed(range(many))]


# Ways and bodies to try.

def codes_way(dice, top, end):
    """Codes from a tree that is split here and there; some of its leaves may be nobody's code."""
    plain = plain_of(top, end)
    leaves = [(sign,) for sign in plain]
    while len(leaves) < top or dice.below(3) == 0:
        leaf = dice.pick([leaf for leaf in leaves if len(leaf) < 4])
        leaves.remove(leaf)
        leaves += [leaf + (sign,) for sign in plain]
    return ("codes", top, end, tuple(dice.shuffled(leaves)[:top]))


def escapes_way(dice, top, end):
    plain = plain_of(top, end)
    mark = dice.pick(plain)
    others = [sign for sign in plain if sign != mark]
    more = dice.below(len(plain) - 1)
    signs = sorted([end, mark] + dice.shuffled(others)[:more])
    return ("escapes", top, end, mark, tuple(zip(signs, dice.shuffled(plain))))


def counts_way(dice, top, end):
    return ("counts", top, end, 2 + dice.below(top - 2))


def ranks_way(dice, top, end):
    return ("ranks", top, end)


MAKERS = (codes_way, escapes_way, counts_way, ranks_way)


def turned(dice, way, deep):
    """The way within so many turned ones."""
    for _ in range(deep):
        way = ("turned", tuple(dice.shuffled(range(top_of(way)))), way)
    return way


def some_ways(seed):
    """Ways of all sorts, of all tops, within none to three turned ones."""
    dice = Dice(seed)
    ways = []
    for top in range(3, 17):
        for make in MAKERS:
            ends = (0, top - 1, dice.below(top), dice.below(top))
            ways += [turned(dice, make(dice, top, end), deep) for deep, end in enumerate(ends)]
    return ways


def some_bodies(way, seed):
    """Bodies of none, one, a few and sixty signs, of many ends, and long rows of one sign."""
    dice = Dice(seed)
    top = top_of(way)
    bodies = [[]] + [[sign] for sign in range(top)]
    bodies += [dice.signs(range(top), many) for many in (2, 3, 5, 8, 13, 30, 59, 60, 60)]
    frequent = [sign for sign in range(top) for _ in range(top if way_end(way, sign) else 1)]
    bodies += [dice.signs(frequent, many) for many in (4, 20, 60)]
    bodies += [[sign] * many for sign in (0, dice.below(top), top - 1) for many in (31, 60)]
    bodies += [[back_to_end(way)] * many for many in (2, 59, 60)]
    return bodies


def way_end(way, sign):
    """Whether the sign is, behind all exchanges, the end."""
    return sign == end_of(way) if way[0] != "turned" else way_end(way[2], way[1][sign])


def back_to_end(way):
    """The sign that is, behind all exchanges, the end."""
    return next(sign for sign in range(top_of(way)) if way_end(way, sign))


def small_ways(top):
    """Ways of a small top: all sorts and all ends; codes of up to two signs; some of them turned."""
    ways = []
    for end in range(top):
        plain = plain_of(top, end)
        ways.append(("ranks", top, end))
        ways += [("counts", top, end, limit) for limit in range(2, top)]
        for mark in plain:
            for codes in product(plain, repeat=2):
                if codes[0] != codes[1]:
                    ways.append(("escapes", top, end, mark, tuple(zip(sorted([end, mark]), codes))))
        dice = Dice(end)
        ways += [codes_way(dice, top, end) for _ in range(6)]
        ways += [escapes_way(dice, top, end) for _ in range(4)]
    dice = Dice(top)
    return ways + [turned(dice, way, 1 + dice.below(3)) for way in ways[::3]]


def lists_of(letters, most):
    """All lists of up to so many letters: those of fewer first, of as many the lesser ones."""
    return [list(row) for many in range(most + 1) for row in product(letters, repeat=many)]
