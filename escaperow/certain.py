"""Certain signs: with what a frame begins, whatever signs its body still gets."""

from escaperow.frames import exchanged, frame_of, grouped, rows_between
from escaperow.ways import plain_signs, unturned


def certain_of(way, body):
    """The signs with which the frames of all bodies, of any number of signs, begin that begin with this one."""
    turnings, inner = unturned(way)
    certain = CERTAIN[inner[0]]
    return certain(inner, exchanged(turnings, body))


def certain_pieces(way, body):
    """By codes and escapes: each sign's own, as behind them the end may come, or any other sign's."""
    return frame_of(way, body)[:-1]


def certain_groups(way, body):
    """By counts: all groups of the rows that are over, and those of the last one that are whole."""
    _, top, end, limit = way
    counts = plain_signs(top, end)[:limit]
    rows = rows_between(body, end)
    certain = []
    for row in rows[:-1]:
        certain.extend(grouped(row, counts))
    last = rows[-1]
    whole = len(last) - len(last) % (limit - 1)
    # What is left may still grow, so that its count is open, even when nothing is left.
    certain.extend(grouped(last[:whole], counts)[:-1])
    return certain


def certain_figures(way, body):
    """By ranks: none, since bodies that go on long enough have numbers that begin with any figure.

    With each further sign their numbers grow about top times, each figure of a frame is worth
    top less 1 times the next one, and no power of the one number is a power of the other.
    """
    return []


CERTAIN = {
    "codes": certain_pieces,
    "escapes": certain_pieces,
    "counts": certain_groups,
    "ranks": certain_figures,
}
