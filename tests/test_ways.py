"""Points 2 and 3: what is a way, and the word with which another one is refused, by all that a way is handed to."""

import unittest

from escaperow.errors import BadBody, BadSigns, BadWay
from escaperow.frames import body_of, framed
from escaperow.notes import written
from escaperow.parting import parted
from escaperow.rooms import frames_of, worst
from escaperow.streams import Reader, Writer, read
from escaperow.ways import need_way
from helper import small_ways, some_ways

CODES = ((1,), (2, 1), (2, 2))
PAIRS = ((0, 2), (1, 1))


def ranks(top, end=0):
    return ("ranks", top, end)


def codes(*told, top=3, end=0):
    return ("codes", top, end, told)


def escapes(*pairs, top=5, end=0, mark=1):
    return ("escapes", top, end, mark, pairs)


def counts(limit, top=5, end=0):
    return ("counts", top, end, limit)


def turned(way, *turnings):
    """The way within turned ones, the last of the turnings outermost."""
    for signs in turnings:
        way = ("turned", signs, way)
    return way


SAME = (0, 1, 2)
SIXTEEN = tuple(range(15, -1, -1))

GOOD = (
    ranks(3), ranks(16), ranks(3, 2), ranks(16, 15), ranks(7, 0),
    codes(*CODES), codes((2,), (1, 1), (1, 2)), codes((1, 1, 1, 1), (1, 1, 1, 2), (2, 2, 2, 2)),
    codes((0,), (1, 0, 1), (1, 1), end=2), codes((1, 1), (1, 2), (2, 1)),
    codes(*[(sign,) for sign in range(1, 15)], (15, 1), (15, 2), top=16),
    escapes((0, 2), (1, 1), top=3), escapes((0, 1), (1, 2), top=3), escapes((0, 3), (1, 4)),
    escapes((0, 4), (1, 3), (2, 2), (4, 1)), escapes((1, 0), (3, 2), (4, 1), mark=3, end=4),
    counts(2, top=3), counts(2), counts(4), counts(3, end=4), counts(15, top=16), counts(2, top=16),
    turned(ranks(3), SAME), turned(codes(*CODES), (2, 0, 1)), turned(ranks(3), SAME, (2, 1, 0), (1, 2, 0)),
    turned(counts(15, top=16), SIXTEEN, SIXTEEN, SIXTEEN),
)

# One fault each.
BAD = {
    "deep": (
        turned(ranks(3), SAME, SAME, SAME, SAME),
        turned(codes(*CODES), *[SAME] * 5),
        turned(counts(2, top=3), *[SAME] * 5000),
    ),
    "top": (
        ranks(2), ranks(17), ranks(0), ranks(1), ranks(-3), ranks(10 ** 30), ranks(True), ranks(False),
        codes((1,), (1, 1), top=2), escapes((0, 1), (1, 1), top=2), counts(2, top=17), counts(2, top=2),
        turned(ranks(17), tuple(range(17))), turned(ranks(2), (0, 1), (1, 0)),
    ),
    "end": (
        ranks(3, -1), ranks(3, 3), ranks(16, 16), ranks(16, 10 ** 30), ranks(3, True), ranks(3, False),
        codes(*CODES, end=3), escapes(*PAIRS, end=5), counts(2, end=-1), counts(2, end=5),
        turned(ranks(3, 3), SAME), turned(ranks(4, -1), (3, 2, 1, 0), (0, 1, 2, 3)),
    ),
    "codes": (
        codes(), codes((1,), (2,)), codes(*CODES[:2]), codes((1, 1), (1, 2), (2, 1), (2, 2)),
        codes((), (1,), (2,)), codes((1,), (2,), ()), codes((1,), (2, 1), (2, 2, 2, 2, 2)),
        codes((1, 1, 1, 1, 1), (1, 2), (2,)), codes((1,), (2, 0), (2, 2)), codes((0,), (1,), (2,)),
        codes((1,), (2, 1), (2, 2, 0)), codes((1,), (2, 1), (2, 3)), codes((1,), (2, 1), (2, -1)),
        codes((1,), (2, 1), (2, True)), codes((True,), (2, 1), (2, 2)), codes((False,), (1, 1), (1, 2), end=2),
        codes((1,), (2, 2), (2, 2)), codes((1,), (2,), (1,)), codes((1,), (1, 2), (2,)),
        codes((1, 2), (2,), (1,)), codes((2, 1, 1), (1,), (2, 1)), codes((2, 1), (1,), (2, 1, 1, 2)),
        codes((1,), (2,), (3,), (4, 1), (4, 2), (1, 1), top=6), codes((0,), (1, 1), (1, 2), end=2),
        codes(*[(sign,) for sign in range(1, 16)], (15, 1), top=16),
        turned(codes((1,), (2,), (1,)), SAME), turned(codes(), SAME, SAME, SAME),
    ),
    "mark": (
        escapes((0, 2), (1, 1), mark=0), escapes((0, 2), (1, 1), mark=-1), escapes((0, 2), (1, 1), mark=5),
        escapes((0, 2), (1, 1), mark=True), escapes((3, 1), (4, 2), mark=4, end=4),
        escapes((0, 1), (1, 2), top=3, mark=3),
        escapes((1, 0), (2, 3), mark=False, end=1), turned(escapes((0, 2), (1, 1), top=3, mark=0), SAME),
    ),
    "pairs": (
        escapes(), escapes((0, 1)), escapes((1, 1)), escapes((2, 1), (3, 2)),
        escapes((1, 1), (2, 2)), escapes((0, 1), (2, 2)), escapes((0, 1), (2, 2), (3, 3)),
        escapes((1, 1), (0, 2)), escapes((0, 1), (2, 2), (1, 3)), escapes((0, 1), (1, 2), (1, 3)),
        escapes((0, 1), (0, 2), (1, 3)), escapes((0, 1), (1, 2), (4, 3), (3, 4)),
        escapes((0, 0), (1, 1)), escapes((0, 1), (1, 0)), escapes((0, 1), (1, 5)), escapes((0, 1), (1, -1)),
        escapes((0, 1), (1, 1)), escapes((0, 1), (1, 2), (2, 1)), escapes((0, True), (1, 2)),
        escapes((0, 2), (1, True)),
        escapes((0, 1), (1, 2), (5, 3)), escapes((-1, 3), (0, 1), (1, 2)), escapes((0, 1), (True, 2)),
        escapes((False, 1), (1, 2)), escapes((0, 1), (1, 2), (2, 3), (3, 4), (4, 4)),
        turned(escapes((1, 1), (0, 2), top=3), SAME), turned(escapes(top=3), SAME, SAME, SAME),
    ),
    "limit": (
        counts(1), counts(0), counts(-2), counts(5), counts(6), counts(3, top=3), counts(1, top=3), counts(16, top=16),
        counts(10 ** 30), counts(True), counts(False), turned(counts(3, top=3), SAME),
        turned(counts(1, top=3), SAME, SAME),
    ),
    "signs": (
        turned(ranks(3), ()), turned(ranks(3), (0, 1)), turned(ranks(3), (0, 1, 2, 2)), turned(ranks(3), (0, 1, 2, 3)),
        turned(ranks(3), (0, 0, 1)), turned(ranks(3), (2, 1, 1)), turned(ranks(3), (1, 2, 3)),
        turned(ranks(3), (-1, 0, 1)), turned(ranks(3), (0, 1, -1)), turned(ranks(3), (0, True, 2)),
        turned(ranks(3), (False, 1, 2)), turned(ranks(3), (0, 1, 2, 0, 1, 2)),
        turned(codes(*CODES), (0, 0, 0)), turned(escapes(*PAIRS, top=3), (1, 2)), turned(counts(2, top=3), (1, 2, 3)),
        turned(ranks(3), (0, 1), SAME, SAME), turned(ranks(3), SAME, (0, 1, 1), SAME),
        turned(ranks(3), SAME, SAME, (0, 1, 2, 3)), turned(counts(15, top=16), SIXTEEN, SIXTEEN[:-1]),
    ),
}

# Two faults and more, of which the first in the order of point 3 is told.
TWICE_BAD = (
    ("deep", turned(ranks(2), SAME, SAME, SAME, SAME)),
    ("deep", turned(ranks(3, 3), SAME, SAME, SAME, SAME)),
    ("deep", turned(codes(), SAME, SAME, SAME, SAME)),
    ("deep", turned(escapes(mark=0), SAME, SAME, SAME, SAME)),
    ("deep", turned(counts(1), SAME, SAME, SAME, SAME)),
    ("deep", turned(ranks(3), SAME, SAME, SAME, (0, 0))),
    ("top", ranks(2, 2)), ("top", ranks(17, -1)), ("top", ranks(2, True)),
    ("top", codes(top=2)), ("top", codes(*CODES, top=17)), ("top", escapes(top=17, mark=0)),
    ("top", escapes((1, 1), (0, 2), top=2)), ("top", counts(2, top=2)), ("top", counts(17, top=17)),
    ("top", turned(ranks(2), SAME)), ("top", turned(ranks(17, 17), ())),
    ("end", codes((1,), (2,), (3,), end=3)), ("end", codes(end=-1)), ("end", escapes(mark=5, end=5)),
    ("end", escapes((0, 1), (1, 2), end=-1)), ("end", counts(5, end=5)), ("end", counts(1, end=-1)),
    ("end", turned(ranks(3, 3), (0, 1))), ("end", turned(codes(end=3), (0, 0, 0))),
    ("codes", turned(codes((1,), (2,), (1,)), (0, 0, 1))), ("codes", turned(codes(), SAME, ())),
    ("mark", escapes(mark=0)), ("mark", escapes((1, 1), (0, 2), mark=5)), ("mark", escapes((0, 1), (1, 1), mark=-1)),
    ("mark", turned(escapes((0, 1), (1, 2), mark=0), (0, 1))),
    ("pairs", turned(escapes((0, 1), (1, 1)), (0, 1))), ("pairs", turned(escapes(), SAME, (1, 1, 1, 1, 1))),
    ("limit", turned(counts(1), (0, 1))), ("limit", turned(counts(5), (4, 3, 2, 1, 0), (4, 4, 4, 4, 4))),
)

BAD_BODIES = ([], [0], [-1], [99, 0], [0] * 61, [99] * 61)
BAD_LISTS = ([], [0], [-1], [99, 0], [0] * 401, [99] * 401)


class GoodWays(unittest.TestCase):

    def test_are_let_go(self):
        for way in GOOD:
            with self.subTest(way=way):
                self.assertIsNone(need_way(way))

    def test_all_sorts_tops_and_turnings_are_let_go(self):
        for way in some_ways(1) + small_ways(3) + small_ways(4):
            with self.subTest(way=way):
                self.assertIsNone(need_way(way))

    def test_frame_and_are_read(self):
        for way in GOOD:
            with self.subTest(way=way):
                self.assertEqual(body_of(way, framed(way, [2, 0, 1])), [2, 0, 1])


class BadWays(unittest.TestCase):

    def assert_refused(self, why, ask, *asked):
        with self.assertRaises(BadWay) as refusal:
            ask(*asked)
        self.assertEqual(refusal.exception.why, why)

    def cases(self):
        """Each word, a name for the case (the deepest way cannot be shown), and the way."""
        for why, ways in BAD.items():
            for at, way in enumerate(ways):
                yield why, f"BAD {at}", way
        for at, (why, way) in enumerate(TWICE_BAD):
            yield why, f"TWICE_BAD {at}", way

    def test_need_way_refuses_with_the_first_word(self):
        for why, case, way in self.cases():
            with self.subTest(why=why, case=case):
                self.assert_refused(why, need_way, way)

    def test_framed_refuses_them_ahead_of_any_body(self):
        for why, case, way in self.cases():
            for body in BAD_BODIES:
                with self.subTest(why=why, case=case, body=body):
                    self.assert_refused(why, framed, way, body)

    def test_body_of_refuses_them_ahead_of_any_list(self):
        for why, case, way in self.cases():
            for signs in BAD_LISTS:
                with self.subTest(why=why, case=case, signs=signs):
                    self.assert_refused(why, body_of, way, signs)

    def test_read_refuses_them_ahead_of_any_list(self):
        for why, case, way in self.cases():
            for signs in BAD_LISTS:
                with self.subTest(why=why, case=case, signs=signs):
                    self.assert_refused(why, read, way, signs)

    def test_readers_writers_and_texts_refuse_them(self):
        for why, case, way in self.cases():
            for ask in (Reader, Writer, written):
                with self.subTest(why=why, case=case, ask=ask.__name__):
                    self.assert_refused(why, ask, way)

    def test_rooms_refuse_them_with_any_number(self):
        for why, case, way in self.cases():
            for ask in (worst, frames_of):
                for number in (-1, 0, 1, 60, 61):
                    with self.subTest(why=why, case=case, ask=ask.__name__, number=number):
                        self.assert_refused(why, ask, way, number)

    def test_parted_refuses_the_one_then_the_other_ahead_of_unlike_tops(self):
        for why, case, way in self.cases():
            with self.subTest(why=why, case=case):
                for other in (ranks(3), ranks(16), counts(2), ranks(2), turned(ranks(3), ()), codes(top=17)):
                    self.assert_refused(why, parted, way, other)
                for good in (ranks(3), ranks(16), counts(2)):
                    self.assert_refused(why, parted, good, way)

    def test_the_bodies_and_lists_are_refused_by_a_good_way(self):
        for body in BAD_BODIES[2:]:
            with self.assertRaises(BadBody):
                framed(ranks(3), body)
        for signs in BAD_LISTS[2:]:
            for ask in (body_of, read):
                with self.assertRaises(BadSigns):
                    ask(ranks(3), signs)


if __name__ == "__main__":
    unittest.main()
