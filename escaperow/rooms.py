"""Room: how long frames are, how many there are of a length, and how long they must be."""

from escaperow.errors import BadWay
from escaperow.frames import MOST_BODY, frame_of, top_of
from escaperow.ranks import rows_up_to
from escaperow.ways import is_top, need_way, unturned


def worst(way, many):
    """How long the longest frame of a body of just so many signs is, and such a body."""
    need_way(way)
    room = 0
    body = []
    # By each sort, one and the same sign at all places is as bad as any: the one of the longest code, the mark,
    # any that is not the end (ends part groups), or the greatest.
    for sign in range(top_of(way)):
        same = [sign] * many
        size = len(frame_of(way, same))
        if size > room:
            room = size
            body = same
    return room, body


def frames_of(way, size):
    """How many bodies have a frame of just so many signs."""
    need_way(way)
    _, inner = unturned(way)
    count = COUNTERS[inner[0]]
    return count(inner, size)


def least_room(top, many):
    """The least room for the worst of all bodies of at most so many signs, by any way of framing at all."""
    if not is_top(top):
        raise BadWay("top")
    bodies = rows_up_to(many, top)
    room = 0
    while rows_up_to(room - 1, top - 1) < bodies:
        room += 1
    return room


def ranks_of_size(way, size):
    """How many bodies have a frame of this size, by ranks."""
    top = way[1]
    # The numbers of the lists that stand ahead of the end rise with their lengths.
    first = rows_up_to(size - 2, top - 1)
    behind_last = rows_up_to(size - 1, top - 1)
    return max(0, min(behind_last, rows_up_to(MOST_BODY, top)) - first)


def pieces_of_size(way, size):
    """How many bodies have a frame of this size, by codes and escapes."""
    end_alone = frame_of(way, [])
    steps = [(0, len(frame_of(way, [sign])) - len(end_alone), 1) for sign in range(way[1])]
    return bodies_of_size([steps], [len(end_alone)], size)


def groups_of_size(way, size):
    """How many bodies have a frame of this size, by counts.

    The states are how many signs the last row has behind its whole groups, and, as the last of the states,
    limit less 1, that it has whole groups and nothing behind them. Each sign of a body takes one sign of the frame
    (an end takes none, but it begins a row, and that has a count of its own), and one more if it makes a group whole.
    """
    top = way[1]
    limit = way[3]
    whole = limit - 1
    steps = []
    for state in range(limit):
        then = state % whole + 1
        steps.append([(0, 1, 1), (then, 2 if then == whole else 1, top - 1)])
    # The first row's count and the end; the count is left out behind whole groups.
    closings = [2] * whole + [1]
    return bodies_of_size(steps, closings, size)


def bodies_of_size(steps, closings, size):
    """How many bodies have a frame of this size, where frames grow by steps from state to state.

    A state's steps are tuples: the state that comes then, by how much the frame grows, and how many signs do so.
    closings tells for each state by how much the frame grows when the body is over.
    """
    found = 0
    bodies = {(0, 0): 1}
    for _ in range(MOST_BODY + 1):
        found += sum([bodies.get((last, size - closing), 0) for last, closing in enumerate(closings)])
        longer = {}
        for (state, room), many in bodies.items():
            for then, grown, signs in steps[state]:
                if room + grown < size:
                    key = (then, room + grown)
                    longer[key] = longer.get(key, 0) + many * signs
        bodies = longer
    return found


COUNTERS = {
    "codes": pieces_of_size,
    "escapes": pieces_of_size,
    "counts": groups_of_size,
    "ranks": ranks_of_size,
}
