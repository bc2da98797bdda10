"""Points 9 and 10: the longest frames, how many frames there are, and the least room of any way."""

import unittest

from escaperow.errors import BadWay
from escaperow.rooms import frames_of, least_room, worst
from helper import (Dice, MAKERS, expected_frame, inner_of, lists_of, small_ways, some_bodies, some_ways, top_of,
                    turned)

CODES = ("codes", 4, 0, ((1,), (2, 2), (2, 3, 1), (3, 1, 1, 1)))
ESCAPES = ("escapes", 5, 4, 2, ((1, 0), (2, 3), (4, 2)))
COUNTS = ("counts", 7, 2, 4)
RANKS = ("ranks", 3, 1)
TURNED = ("turned", (1, 2, 0), ("turned", (0, 2, 1), RANKS))


def counts_ways():
    """Counts of many tops and all their limits."""
    return [("counts", top, top // 3, limit) for top in (3, 4, 5, 8, 16) for limit in range(2, top)]


def rooms_of_rows(limit, many):
    """The most room that the rows of so many signs in all take, by counts: all but the last, and the last.

    Row by row: either one row is all, or a first row and its end stand ahead of others.
    """
    most = []
    for signs in range(many + 1):
        whole, left = divmod(signs, limit - 1)
        found = [signs + whole + (0 if left == 0 and whole > 0 else 1)]
        for first in range(signs):
            found.append(first + first // (limit - 1) + 1 + most[signs - first - 1])
        most.append(max(found))
    return most


def sums(pieces, size):
    """In how many ways pieces, whose sizes rise from 1 on, stand in a row of each size up to this one."""
    found = [1]
    for room in range(1, size + 1):
        found.append(sum(many * found[room - piece] for piece, many in pieces.items() if piece <= room))
    return found


def tally(sizes):
    """How often each of the sizes is there."""
    return {size: list(sizes).count(size) for size in set(sizes)}


def expected_frames(way, most):
    """How many bodies have a frame of each size up to the most, of sizes that no body of over sixty signs has."""
    way = inner_of(way)
    sort, top, end = way[:3]
    if sort == "ranks":
        return [0] + [(top - 1) ** (size - 1) for size in range(1, most + 1)]
    if sort == "counts":
        return counts_frames(top, way[3], most)
    pieces = tally([len(expected_frame(way, [sign])) - 1 for sign in range(top)])
    return [0] + sums(pieces, most - 1)


def counts_frames(top, limit, most):
    """By counts: rows that are over, then a last one, then the end."""
    rows, lasts = {}, {}
    for signs in range(most):
        room = signs + signs // (limit - 1) + 1
        rows[room] = rows.get(room, 0) + (top - 1) ** signs
        if signs > 0 and signs % (limit - 1) == 0:
            room -= 1
        lasts[room] = lasts.get(room, 0) + (top - 1) ** signs
    ahead = sums(rows, most)
    return [sum(many * ahead[size - 1 - last] for last, many in lasts.items() if last < size)
            for size in range(most + 1)]


def many_bodies(top, most):
    """How many bodies of at most so many signs there are."""
    return sum(top ** many for many in range(most + 1))


class Worst(unittest.TestCase):

    def assert_worst(self, way, many, room):
        told = worst(way, many)
        with self.subTest(way=way, many=many):
            self.assertIsInstance(told, tuple)
            self.assertEqual(told[0], room)
            self.assertIsInstance(told[1], list)
            self.assertEqual(len(told[1]), many)
            self.assertTrue(all(type(sign) is int and 0 <= sign < top_of(way) for sign in told[1]))
            self.assertEqual(len(expected_frame(way, told[1])), room)

    def test_written_out(self):
        for many, rooms in ((0, (1, 1, 2, 1, 1)), (1, (5, 3, 3, 3, 3)), (2, (9, 5, 4, 4, 4)), (3, (13, 7, 5, 6, 6)),
                            (4, (17, 9, 7, 7, 7)), (60, (241, 121, 81, 96, 96))):
            for way, room in zip((CODES, ESCAPES, COUNTS, RANKS, TURNED), rooms):
                self.assert_worst(way, many, room)

    def test_all_short_bodies(self):
        for top, most in ((3, 6), (4, 4)):
            for way in small_ways(top):
                rooms = [0] * (most + 1)
                for body in lists_of(range(top), most):
                    rooms[len(body)] = max(rooms[len(body)], len(expected_frame(way, body)))
                for many, room in enumerate(rooms):
                    self.assert_worst(way, many, room)

    def test_no_body_has_a_longer_frame(self):
        for seed, way in enumerate(some_ways(41)):
            for body in some_bodies(way, seed):
                room, longest = worst(way, len(body))
                with self.subTest(way=way, body=body):
                    self.assertLessEqual(len(expected_frame(way, body)), room)
                    self.assertEqual((len(longest), len(expected_frame(way, longest))), (len(body), room))

    def test_up_to_sixty_signs(self):
        for seed, way in enumerate(some_ways(42)[::3]):
            inner = inner_of(way)
            for many in (0, 1, 2, 7, 30, 31, 59, 60):
                if inner[0] == "codes":
                    self.assert_worst(way, many, many * max(len(code) for code in inner[3]) + 1)
                if inner[0] == "escapes":
                    self.assert_worst(way, many, 2 * many + 1)
                if inner[0] == "ranks":
                    self.assert_worst(way, many, len(expected_frame(inner, [inner[1] - 1] * many)))

    def test_by_counts_up_to_sixty_signs(self):
        for way in counts_ways():
            for many, room in enumerate(rooms_of_rows(way[3], 60)):
                self.assert_worst(way, many, room + 1)
                self.assert_worst(turned(Dice(many), way, 2), many, room + 1)

    def test_somewhat_beyond_sixty(self):
        for way in (CODES, ESCAPES, COUNTS, RANKS, TURNED):
            self.assertGreaterEqual(worst(way, 61)[0], worst(way, 60)[0])
            worst(way, -1)

    def test_the_body_may_be_changed(self):
        for way in (CODES, ESCAPES, COUNTS, RANKS, TURNED):
            room, body = worst(way, 5)
            as_told = list(body)
            body.clear()
            self.assertEqual(worst(way, 5), (room, as_told))


class FramesOf(unittest.TestCase):

    def test_written_out(self):
        for size, numbers in ((0, (0, 0, 0, 0, 0)), (1, (1, 1, 0, 1, 1)), (2, (1, 2, 1, 2, 2)), (3, (2, 7, 7, 4, 4))):
            for way, number in zip((CODES, ESCAPES, COUNTS, RANKS, TURNED), numbers):
                with self.subTest(way=way, size=size):
                    self.assertEqual(frames_of(way, size), number)

    def test_all_short_bodies(self):
        for top, most in ((3, 7), (4, 5)):
            bodies = lists_of(range(top), most)
            for way in small_ways(top):
                sizes = tally([len(expected_frame(way, body)) for body in bodies])
                # Each body of more signs has a frame of more than that.
                for size in range(most + 2):
                    with self.subTest(way=way, size=size):
                        self.assertEqual(frames_of(way, size), sizes.get(size, 0))

    def test_up_to_sixty(self):
        for way in some_ways(43)[::3] + counts_ways():
            with self.subTest(way=way):
                self.assertEqual([frames_of(way, size) for size in (*range(8), 29, 30, 59, 60)],
                                 [expected_frames(way, 60)[size] for size in (*range(8), 29, 30, 59, 60)])

    def test_each_size_up_to_sixty(self):
        for way in (CODES, ESCAPES, COUNTS, RANKS, TURNED):
            self.assertEqual([frames_of(way, size) for size in range(61)], expected_frames(way, 60))

    def test_all_sizes_together_are_all_bodies(self):
        for way in (CODES, ESCAPES, COUNTS, RANKS, TURNED):
            sizes = range(-2, worst(way, 60)[0] + 3)
            self.assertEqual(sum(frames_of(way, size) for size in sizes), many_bodies(top_of(way), 60))


class LeastRoom(unittest.TestCase):

    def test_written_out(self):
        for top, many, room in ((3, 0, 1), (3, 1, 3), (3, 2, 4), (3, 3, 6), (16, 0, 1), (16, 1, 3), (16, 2, 4)):
            with self.subTest(top=top, many=many):
                self.assertEqual(least_room(top, many), room)

    def test_lists_and_bodies_counted(self):
        for top in range(3, 17):
            lists = [0]
            while lists[-1] < many_bodies(top, 60):
                lists.append(lists[-1] + (top - 1) ** (len(lists) - 1))
            for many in range(61):
                bodies = many_bodies(top, many)
                with self.subTest(top=top, many=many):
                    self.assertEqual(least_room(top, many),
                                     next(room for room, number in enumerate(lists) if number >= bodies))

    def test_ranks_have_just_that(self):
        for top in range(3, 17):
            for many in (0, 1, 2, 3, 10, 59, 60):
                way = turned(Dice(many), ("ranks", top, many % top), many % 4)
                self.assertEqual(least_room(top, many), worst(way, many)[0])

    def test_no_way_has_less(self):
        for top in range(3, 17):
            dice = Dice(top)
            for make in MAKERS:
                way = make(dice, top, dice.below(top))
                for many in (0, 1, 2, 7, 33, 60):
                    self.assertLessEqual(least_room(top, many), worst(way, many)[0])

    def test_tops_that_are_none(self):
        for top in (2, 17, 1, 0, -1, -3, -16, 10 ** 20, True, False):
            for many in (0, 1, 60, 61, -1):
                with self.subTest(top=top, many=many):
                    with self.assertRaises(BadWay) as refusal:
                        least_room(top, many)
                    self.assertEqual(refusal.exception.why, "top")

    def test_somewhat_beyond(self):
        self.assertEqual(least_room(3, 61), len(expected_frame(("ranks", 3, 0), [2] * 61)))
        least_room(16, -1)


if __name__ == "__main__":
    unittest.main()
