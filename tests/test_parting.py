"""Point 11: ways are alike, or the least list that they read unlike is told."""

import unittest

from escaperow.errors import BadWay, OtherTop
from escaperow.parting import parted
from helper import (Dice, MAKERS, back_to_end, codes_way, counts_way, end_of, escapes_way, expected_body,
                    expected_frame, inner_of, lists_of, plain_of, small_ways, some_ways, top_of, turned)

CODES = ("codes", 4, 0, ((1,), (2, 2), (2, 3, 1), (3, 1, 1, 1)))
ESCAPES = ("escapes", 5, 4, 2, ((1, 0), (2, 3), (4, 2)))
COUNTS = ("counts", 7, 2, 4)
RANKS = ("ranks", 3, 1)


class Pieces:
    """Reads, sign by sign, codes and escapes: which sign each piece is. The state is the piece that has begun."""

    start = ()

    def __init__(self, way):
        self.pieces = {tuple(expected_frame(way, [sign])[:-1]): sign for sign in range(top_of(way))}

    def step(self, state, sign):
        """The state then, None if no frame begins so, and the signs of the body that are read."""
        begun = (*state, sign)
        if begun in self.pieces:
            return (), (self.pieces[begun],)
        return (begun if any(piece[:len(begun)] == begun for piece in self.pieces) else None), ()

    def may_end(self, state):
        return state == ()


class Groups:
    """Reads counts. The state is how many signs are left of the group, and of which kind it is."""

    start = (0, "none")

    def __init__(self, way):
        _, top, end, self.limit = inner_of(way)
        self.plain = plain_of(top, end)
        self.sign_of = {expected_frame(way, [sign])[1]: sign for sign in range(top) if sign != back_to_end(way)}
        self.end = back_to_end(way)

    def step(self, state, sign):
        left, kind = state
        if left > 0:
            return (left - 1, kind), (self.sign_of[sign],)
        count = self.plain.index(sign) + 1
        read = (self.end,) if kind in ("over", "needless") else ()
        if count > self.limit:
            return None, ()
        if count == self.limit:
            return (count - 1, "whole"), read
        return (count - 1, "needless" if count == 1 and kind == "whole" else "over"), read

    def may_end(self, state):
        return state[0] == 0 and state[1] in ("whole", "over")


def reader_of(way):
    return Groups(way) if inner_of(way)[0] == "counts" else Pieces(way)


def unlike_in_short(way, other, most):
    """The least list of up to so many signs that the ways read unlike, or None."""
    ends = (end_of(way), end_of(other))
    for signs in lists_of(range(top_of(way)), most):
        if signs and signs[-1] in ends and expected_body(way, signs) != expected_body(other, signs):
            return signs
    return None


def unlike_by_steps(way, other):
    """The least list that the ways read unlike, or None: of one end, none of them ranks.

    Both are read along all lists at once. Two lists at which both stand alike, and what the one has read ahead of
    the other is alike, go on alike, so that the lesser one is enough.
    """
    readers = (reader_of(way), reader_of(other))
    end = end_of(way)
    start = (readers[0].start, readers[1].start, (), ())
    seen = {start}
    level = [([], start)]
    while level:
        for row, (one, two, ahead, behind) in level:
            ends = (one is not None and readers[0].may_end(one), two is not None and readers[1].may_end(two))
            if ends[0] != ends[1] or (ends[0] and ahead != behind):
                return row + [end]
        longer = []
        for row, state in level:
            for sign in plain_of(top_of(way), end):
                then = both_steps(readers, state, sign)
                if then[:2] != (None, None) and then not in seen:
                    seen.add(then)
                    longer.append((row + [sign], then))
        level = longer
    return None


def both_steps(readers, state, sign):
    """Both readers' states behind the sign, and what each has read that the other has not."""
    states, told = [], []
    for reader, before, ahead in zip(readers, state[:2], state[2:]):
        then, read = reader.step(before, sign) if before is not None else (None, ())
        states.append(then)
        told.append(ahead + read)
    if None in states:
        return (*states, (), ())
    while told[0] and told[1] and told[0][0] == told[1][0]:
        told = [told[0][1:], told[1][1:]]
    if told[0] and told[1]:
        # They have read unlike signs, which stay so, whatever comes.
        told = [("unlike",), ("otherwise",)]
    return (*states, *told)


def expected_parting(way, other):
    """What parted must tell of ways of one top."""
    unlike = unlike_in_short(way, other, 2 if top_of(way) > 5 else 3)
    if unlike is not None or "ranks" in (inner_of(way)[0], inner_of(other)[0]):
        return unlike
    return unlike_by_steps(way, other)


def as_codes(way):
    """Escapes told as codes."""
    _, top, end, mark, pairs = way
    codes = dict(pairs)
    return ("codes", top, end, tuple((mark, codes[sign]) if sign in codes else (sign,) for sign in range(top)))


def taken_in(way):
    """A turned way of codes as codes."""
    _, signs, (sort, top, end, codes) = way
    return (sort, top, end, tuple(codes[sign] for sign in signs))


def as_one(way):
    """Two turned ones as one."""
    _, outer, (_, inner, within) = way
    return ("turned", tuple(inner[sign] for sign in outer), within)


def identity(top):
    return tuple(range(top))


def exchanged(row, one, two):
    row = list(row)
    row[one], row[two] = row[two], row[one]
    return tuple(row)


def near_ways(dice, way):
    """Ways that differ in little from a way: two codes, one code, a limit, an end, a mark, a pair, two signs."""
    sort, top, end = way[:3]
    one = dice.below(top)
    two = (one + 1 + dice.below(top - 1)) % top
    near = [("turned", exchanged(identity(top), one, two), way), make_like(dice, way)]
    if sort == "ranks":
        near.append((sort, top, one))
    if sort == "counts":
        near += [(sort, top, one, way[3])] + [(sort, top, end, limit) for limit in range(2, top)]
    if sort == "codes":
        codes = way[3]
        near.append((sort, top, end, exchanged(codes, one, two)))
        longer = codes[one] + (plain_of(top, end)[dice.below(top - 1)],)
        if len(longer) <= 4:
            near.append((sort, top, end, codes[:one] + (longer,) + codes[one + 1:]))
    if sort == "escapes":
        mark, pairs = way[3:]
        numbers = [code for _, code in pairs]
        near.append((sort, top, end, mark, tuple(zip([sign for sign, _ in pairs], numbers[1:] + numbers[:1]))))
        near += [(sort, top, end, other, pairs) for other, _ in pairs if other not in (mark, end)]
        near.append((sort, top, end, mark, tuple(pair for pair in pairs if pair[0] in (mark, end))))
    return near


def make_like(dice, way):
    """Another way of that sort, top and end; codes beside ranks, as these have nothing more to differ in."""
    make = {"codes": codes_way, "escapes": escapes_way, "counts": counts_way, "ranks": codes_way}[way[0]]
    return make(dice, *way[1:3])


class Parting(unittest.TestCase):

    def assert_parted(self, way, other, signs):
        for one, two in ((way, other), (other, way)):
            with self.subTest(one=one, two=two):
                told = parted(one, two)
                self.assertEqual(told, signs)
                if told is not None:
                    self.assertIsInstance(told, list)
                    self.assertNotEqual(expected_body(one, told), expected_body(two, told))


class Alike(Parting):

    def test_each_way_is_alike_to_itself(self):
        for way in some_ways(51):
            self.assert_parted(way, way, None)

    def test_escapes_as_codes(self):
        for top in range(3, 17):
            dice = Dice(top)
            for _ in range(4):
                way = escapes_way(dice, top, dice.below(top))
                self.assert_parted(way, as_codes(way), None)

    def test_turned_ones_put_into_codes(self):
        for top in range(3, 17):
            dice = Dice(top)
            for _ in range(4):
                way = turned(dice, codes_way(dice, top, dice.below(top)), 1)
                self.assert_parted(way, taken_in(way), None)

    def test_two_turned_ones_as_one(self):
        for top in range(3, 17):
            dice = Dice(top)
            for make in MAKERS:
                way = turned(dice, make(dice, top, dice.below(top)), 3)
                self.assert_parted(way, as_one(way), None)
                self.assert_parted(way, as_one(as_one(way)), None)
                self.assert_parted(as_one(way), (way[0], way[1], as_one(way[2])), None)

    def test_one_that_exchanges_nothing(self):
        for way in some_ways(52):
            if way[0] != "turned":
                same = identity(top_of(way))
                self.assert_parted(way, ("turned", same, way), None)
                self.assert_parted(way, ("turned", same, ("turned", same, ("turned", same, way))), None)
                back = same[::-1]
                self.assert_parted(way, ("turned", back, ("turned", back, way)), None)

    def test_a_turned_way_and_one_turned_otherwise(self):
        # Codes that take in one of the exchanges, and all of them.
        dice = Dice(53)
        for top in (3, 7, 16):
            way = turned(dice, codes_way(dice, top, 1), 2)
            self.assert_parted(way, ("turned", way[1], taken_in(way[2])), None)
            self.assert_parted(way, taken_in(("turned", way[1], taken_in(way[2]))), None)


class Unlike(Parting):

    def test_written_out(self):
        for way, other, signs in (
                (RANKS, ("ranks", 3, 0), [0]),
                (RANKS, ("turned", (1, 0, 2), RANKS), [0, 1]),
                (RANKS, ("turned", (0, 2, 1), RANKS), [2, 1]),
                (RANKS, ("counts", 3, 1, 2), [1]),
                (("counts", 4, 0, 2), ("counts", 4, 0, 3), [2, 1, 1, 0]),
                (("counts", 7, 2, 4), ("counts", 7, 2, 5), [4, 0, 0, 0, 0, 2]),
                (COUNTS, ("counts", 7, 1, 4), [0, 1]),
                (COUNTS, ("turned", (1, 0, 2, 3, 4, 5, 6), COUNTS), [1, 0, 2]),
                (COUNTS, ("turned", (2, 1, 0, 3, 4, 5, 6), COUNTS), [0, 0, 2]),
                (CODES, ("codes", 4, 0, ((1,), (2, 2), (2, 3, 1), (3, 1, 1, 2))), [3, 1, 1, 1, 0]),
                (CODES, ("codes", 4, 0, ((1,), (2, 2), (3, 1, 1, 1), (2, 3, 1))), [2, 3, 1, 0]),
                (ESCAPES, ("escapes", 5, 4, 2, ((1, 3), (2, 0), (4, 2))), [2, 0, 4]),
                (ESCAPES, ("escapes", 5, 4, 2, ((2, 3), (4, 2))), [1, 4])):
            self.assert_parted(way, other, signs)
            self.assertEqual(expected_parting(way, other), signs)

    def assert_all_pairs(self, ways, most):
        """All lists of up to so many signs, by all pairs of the ways."""
        lists = lists_of(range(top_of(ways[0])), most)
        told = [[expected_body(way, signs) for signs in lists] for way in ways]
        for at, way in enumerate(ways):
            for other, bodies in list(zip(ways, told))[at:]:
                unlike = next((signs for signs, one, two in zip(lists, told[at], bodies) if one != two), None)
                if parted(way, other) != unlike or parted(other, way) != unlike:
                    self.assert_parted(way, other, unlike)

    def test_all_pairs_of_small_ways(self):
        # Codes have four signs at the most, and a list of one and the end shows them; limits show in fewer.
        self.assert_all_pairs(small_ways(3), 7)
        self.assert_all_pairs(small_ways(4)[::3], 5)

    def test_pairs_of_any_ways(self):
        ways = some_ways(54) + some_ways(55)
        for seed, way in enumerate(ways):
            dice = Dice(seed)
            for _ in range(2):
                other = dice.pick([other for other in ways if top_of(other) == top_of(way)])
                self.assert_parted(way, other, expected_parting(way, other))

    def test_pairs_that_differ_in_little(self):
        for top in (3, 4, 5, 6, 8):
            for make in MAKERS:
                dice = Dice(top)
                for deep in (0, 1, 2):
                    way = make(dice, top, dice.below(top))
                    for other in near_ways(dice, way):
                        turnings = turned(dice, ("ranks", top, 0), deep)
                        self.assert_parted(way, other, expected_parting(way, other))
                        one, two = put_within(turnings, way), put_within(turnings, other)
                        if other[0] != "turned" or deep < 3:
                            self.assert_parted(one, two, expected_parting(one, two))

    def test_all_limits(self):
        for top in (5, 16):
            for end in (0, 1, top - 1):
                for limit in range(2, top):
                    for other in range(limit + 1, top):
                        ways = ("counts", top, end, limit), ("counts", top, end, other)
                        plain = plain_of(top, end)
                        unlike = [plain[limit - 1]] + [plain[0]] * limit + [end]
                        self.assert_parted(*ways, unlike)
                        if limit + 1 in (other, top - 1):
                            self.assertEqual(unlike_by_steps(*ways), unlike)

    def test_ways_that_differ_only_at_long_bodies(self):
        for end in (0, 9, 15):
            dice = Dice(end)
            way = turned(dice, ("counts", 16, end, 15), 3)
            other = put_within(way, ("counts", 16, end, 14))
            plain = plain_of(16, end)
            for seed in range(40):
                body = Dice(seed).signs(range(16), 12)
                self.assertEqual(expected_frame(way, body), expected_frame(other, body))
            self.assert_parted(way, other, [plain[13]] + [plain[0]] * 14 + [end])

    def test_unlike_ends(self):
        dice = Dice(56)
        for top in (3, 4, 9, 16):
            for make in MAKERS:
                for other in MAKERS:
                    ways = make(dice, top, 0), other(dice, top, top - 1)
                    self.assert_parted(*ways, unlike_in_short(*ways, 2))


def put_within(turnings, way):
    """The way within the exchanges of a turned one."""
    return ("turned", turnings[1], put_within(turnings[2], way)) if turnings[0] == "turned" else way


class Refused(unittest.TestCase):

    def assert_bad(self, why, way, other):
        with self.subTest(why=why, way=way, other=other):
            with self.assertRaises(BadWay) as refusal:
                parted(way, other)
            self.assertEqual(refusal.exception.why, why)

    def test_unlike_tops(self):
        ways = [way for way in some_ways(57) if top_of(way) in (3, 4, 15, 16)]
        for way in ways[::2]:
            for other in ways[::5]:
                if top_of(way) != top_of(other):
                    with self.assertRaises(OtherTop):
                        parted(way, other)

    def test_unlike_tops_within_turned_ones(self):
        with self.assertRaises(OtherTop):
            parted(("turned", (1, 0, 2), RANKS), ("turned", (1, 0, 2, 3), ("turned", (0, 1, 3, 2), CODES)))

    def test_the_one_that_is_no_way_ahead_of_the_other(self):
        bad = {"top": ("ranks", 17, 0), "end": ("ranks", 3, 3), "limit": ("counts", 5, 0, 5),
               "signs": ("turned", (0, 0, 1), RANKS), "pairs": ("escapes", 5, 0, 1, ()),
               "mark": ("escapes", 5, 0, 0, ()), "codes": ("codes", 3, 0, ())}
        for why, way in bad.items():
            for other in (RANKS, CODES, ESCAPES, COUNTS, *bad.values()):
                self.assert_bad(why, way, other)
            for one in (RANKS, CODES, ESCAPES, COUNTS):
                self.assert_bad(why, one, way)


class NewLists(unittest.TestCase):

    def test_the_list_may_be_changed(self):
        for way, other in ((RANKS, ("ranks", 3, 0)), (("counts", 4, 0, 2), ("counts", 4, 0, 3))):
            told = parted(way, other)
            as_told = list(told)
            told.append(0)
            self.assertEqual(parted(way, other), as_told)


if __name__ == "__main__":
    unittest.main()
