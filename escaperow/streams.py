"""Readers and writers: frames taken apart and put together piece by piece."""

from escaperow.certain import certain_of
from escaperow.errors import BadBody
from escaperow.frames import MOST_BODY, frame_of, need_signs, taken_out, top_of
from escaperow.ways import is_sign, need_way, unturned


class Reader:
    """Takes signs as they come, and tells the body of each frame among them."""

    def __init__(self, way):
        need_way(way)
        self.way = way
        self.behind_end = []

    def put(self, signs):
        """A list with, for each end among the signs, the body whose frame it ends, or None."""
        need_signs(self.way, signs)
        _, inner = unturned(self.way)
        bodies = []
        for sign in signs:
            self.behind_end.append(sign)
            if sign == inner[2]:
                bodies.append(taken_out(self.way, self.behind_end))
                self.behind_end = []
        return bodies

    def rest(self):
        """The signs behind the latest end."""
        return list(self.behind_end)


def read(way, signs):
    """What a new reader tells of the signs, and its rest then."""
    reader = Reader(way)
    bodies = reader.put(signs)
    return bodies, reader.rest()


class Writer:
    """Takes the signs of one body behind the other, and tells their frames as soon as they are certain."""

    def __init__(self, way):
        need_way(way)
        self.way = way
        self.body = []
        self.many_told = 0

    def put(self, sign):
        """The signs of the frame that are certain with this sign of the body, and were not told."""
        if len(self.body) >= MOST_BODY or not is_sign(sign, top_of(self.way)):
            raise BadBody(len(self.body))
        self.body.append(sign)
        certain = certain_of(self.way, self.body)
        news = certain[self.many_told:]
        self.many_told = len(certain)
        return news

    def close(self):
        """What is missing of the frame of the body; then another body begins."""
        missing = frame_of(self.way, self.body)[self.many_told:]
        self.body = []
        self.many_told = 0
        return missing
