"""Parting: whether two ways are alike, and what they read unlike."""

from escaperow.errors import OtherTop
from escaperow.frames import frame_of, taken_out, top_of
from escaperow.ways import need_way, plain_signs, unturned


def parted(way, other):
    """The least list of signs that the ways read unlike, None if they are alike."""
    need_way(way)
    need_way(other)
    if top_of(way) != top_of(other):
        raise OtherTop("the ways have unlike tops")
    for signs in in_order(telling_lists(way) + telling_lists(other)):
        if taken_out(way, signs) != taken_out(other, signs):
            return signs
    return None


def in_order(lists):
    """The lists, those of fewer signs first, of as many the lesser ones."""
    sized = sorted([(len(signs), signs) for signs in lists])
    return [row for size, row in sized]


def telling_lists(way):
    """Lists of signs; the least list that two ways read unlike is among the telling lists of both.

    The frame of no sign is a way's least frame, so it is what unlike ends show in first, and counts beside all else.
    By codes and escapes, a frame is made of its signs' own: if it is unlike, then so is one of these, and that is less.
    Ranks make each list of one plain sign and the end the frame of one sign, which codes and escapes do not:
    they are told apart there, as are ranks with unlike exchanges.
    Counts with unlike exchanges have unlike frames of some one sign; with unlike limits alone, see one_too_many.
    """
    _, inner = unturned(way)
    lists = [frame_of(way, [])] + [frame_of(way, [sign]) for sign in range(top_of(way))]
    if inner[0] == "counts":
        lists.append(one_too_many(inner))
    return lists


def one_too_many(way):
    """A whole group and a needless count: by counts no frame, unless the limit is a greater one.

    By a greater limit the group is a row that is over, and the count is that of an empty row behind it. No lesser list
    is read unlike: without the count limit all rows are over behind their groups, by both limits, and that count
    and its signs alone, also behind an empty row, are the last row of the same body by both.
    """
    _, top, end, limit = way
    plain = plain_signs(top, end)
    return [plain[limit - 1]] + [plain[0]] * (limit - 1) + [plain[0], end]
