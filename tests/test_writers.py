"""Point 8: writers tell each sign as soon as it is certain, and not sooner."""

import unittest

from escaperow.errors import BadBody
from escaperow.streams import Writer
from helper import (Dice, back_to_end, end_of, expected_frame, inner_of, lists_of, small_ways, some_bodies, some_ways,
                    top_of, turned)

CODES = ("codes", 4, 0, ((1,), (2, 2), (2, 3, 1), (3, 1, 1, 1)))
ESCAPES = ("escapes", 5, 4, 2, ((1, 0), (2, 3), (4, 2)))
COUNTS = ("counts", 7, 2, 4)
RANKS = ("ranks", 3, 1)
TURNED = ("turned", (1, 2, 0), ("turned", (0, 2, 1), RANKS))
# Codes that begin alike: the sign ahead is that of any code, but the end may come in its stead.
ALIKE = (
    ("codes", 3, 0, ((1, 1), (1, 2, 1), (1, 2, 2))),
    ("codes", 3, 2, ((0, 0, 0, 0), (0, 0, 0, 1), (0, 0, 1))),
    ("codes", 5, 1, ((4, 4), (4, 3), (4, 2), (4, 0, 0), (4, 0, 4))),
    ("turned", (2, 0, 1), ("codes", 3, 1, ((2, 2, 2), (2, 2, 0), (2, 0)))),
    ("turned", (1, 0, 2), ("turned", (2, 1, 0), ("codes", 3, 0, ((2, 1, 1, 1), (2, 1, 1, 2), (2, 1, 2, 1))))),
)


def common(rows):
    """With what all the rows begin."""
    least, greatest = min(rows), max(rows)
    many = 0
    while many < min(len(least), len(greatest)) and least[many] == greatest[many]:
        many += 1
    return least[:many]


def longer_bodies(way, body, dice):
    """The body, and some that begin so and have up to twenty-five signs more."""
    top = top_of(way)
    some = [dice.pick(range(top)), back_to_end(way), 0, top - 1]
    more = [[]] + [[sign] for sign in range(top)]
    more += [[sign] * many for sign in some for many in range(2, 26)]
    more += [dice.signs(range(top), many) for many in (2, 3, 5, 12, 25)]
    return [body + signs for signs in more]


def written_by(writer, body):
    """What put told, one list for each sign."""
    return [writer.put(sign) for sign in body]


class WrittenOut(unittest.TestCase):

    def assert_told(self, way, body, told, closing):
        writer = Writer(way)
        with self.subTest(way=way, body=body):
            self.assertEqual(written_by(writer, body), told)
            self.assertEqual(writer.close(), closing)

    def test_by_codes(self):
        self.assert_told(CODES, [], [], [0])
        self.assert_told(CODES, [3, 0, 1], [[3, 1, 1, 1], [1], [2, 2]], [0])
        self.assert_told(ALIKE[0], [0, 2], [[1, 1], [1, 2, 2]], [0])
        self.assert_told(ALIKE[1], [], [], [2])

    def test_by_escapes(self):
        self.assert_told(ESCAPES, [], [], [4])
        self.assert_told(ESCAPES, [0, 4, 2, 3], [[0], [2, 2], [2, 3], [3]], [4])

    def test_by_counts(self):
        self.assert_told(COUNTS, [], [], [0, 2])
        self.assert_told(COUNTS, [6], [[]], [1, 6, 2])
        self.assert_told(COUNTS, [6, 5], [[], []], [3, 6, 5, 2])
        self.assert_told(COUNTS, [6, 5, 6], [[], [], [4, 6, 5, 6]], [2])
        self.assert_told(COUNTS, [6, 5, 6, 0], [[], [], [4, 6, 5, 6], []], [1, 0, 2])
        self.assert_told(COUNTS, [6, 5, 6, 2], [[], [], [4, 6, 5, 6], [0]], [0, 2])
        self.assert_told(COUNTS, [2, 2, 6, 2, 1], [[0], [0], [], [1, 6], []], [1, 1, 2])
        self.assert_told(("counts", 3, 0, 2), [1, 0, 0, 2], [[2, 1], [1], [1], [2, 2]], [0])

    def test_by_ranks(self):
        self.assert_told(RANKS, [], [], [1])
        self.assert_told(RANKS, [2, 2], [[], []], [2, 0, 2, 1])
        self.assert_told(TURNED, [2, 1], [[], []], [2, 0, 1])


class WholeFrames(unittest.TestCase):

    def test_all_that_is_told_is_the_frame(self):
        for seed, way in enumerate(some_ways(31)):
            writer = Writer(way)
            for body in some_bodies(way, seed):
                told = sum(written_by(writer, body), [])
                with self.subTest(way=way, body=body):
                    self.assertEqual(told + writer.close(), expected_frame(way, body))

    def test_bodies_one_behind_another(self):
        for way in (CODES, ESCAPES, COUNTS, RANKS, TURNED, *ALIKE):
            for body in lists_of(range(3), 3):
                writer = Writer(way)
                for many in (0, 1, 2):
                    told = sum(written_by(writer, body), []) + writer.close()
                    self.assertEqual(told, expected_frame(way, body))
                    self.assertEqual(writer.close(), expected_frame(way, []))

    def test_writers_in_turn(self):
        ways = [CODES, CODES, ESCAPES, ESCAPES, COUNTS, COUNTS, RANKS, TURNED, *ALIKE] + some_ways(32)[::5]
        writers = [Writer(way) for way in ways]
        for seed in range(3):
            bodies = [Dice(seed + at).signs(range(top_of(way)), 20 + at) for at, way in enumerate(ways)]
            told = [[] for _ in ways]
            for step in range(60):
                for at, writer in enumerate(writers):
                    if step < len(bodies[at]):
                        told[at] += writer.put(bodies[at][step])
            for at, way in enumerate(ways):
                with self.subTest(way=way):
                    self.assertEqual(told[at] + writers[at].close(), expected_frame(way, bodies[at][:60]))


class Certain(unittest.TestCase):

    def assert_certain(self, way, body, dice):
        """Ahead of each sign and behind it, what was told is what all frames of bodies that begin so begin with."""
        writer = Writer(way)
        told = []
        for many, sign in enumerate(body, start=1):
            told += writer.put(sign)
            frames = [expected_frame(way, longer) for longer in longer_bodies(way, body[:many], dice)]
            with self.subTest(way=way, body=body[:many]):
                self.assertEqual(told, common(frames))

    def test_all_sorts_tops_and_turnings(self):
        for seed, way in enumerate(some_ways(33)):
            dice = Dice(seed)
            self.assert_certain(way, dice.signs(range(top_of(way)), 5), dice)

    def test_short_bodies_of_small_tops(self):
        for top, most in ((3, 3), (4, 2)):
            dice = Dice(top)
            for way in small_ways(top)[::2]:
                for body in lists_of(range(top), most)[top:]:
                    self.assert_certain(way, body, dice)

    def test_up_to_sixty_signs(self):
        # Bodies that begin so are of any number of signs: the sixtieth sign is followed by others, too.
        for seed, way in enumerate((CODES, ESCAPES, COUNTS, RANKS, TURNED, ALIKE[4], ("ranks", 16, 3),
                                    ("counts", 16, 0, 15), ("counts", 3, 0, 2), ("counts", 4, 3, 3))):
            dice = Dice(seed)
            self.assert_certain(way, dice.signs(range(top_of(way)), 60), dice)

    def test_codes_that_begin_alike(self):
        for way in ALIKE:
            dice = Dice(34)
            self.assertEqual(Writer(way).close(), [end_of(way)])
            for body in lists_of(range(3), 3):
                self.assert_certain(way, body, dice)

    def test_rows_at_each_edge_of_a_group(self):
        for top, end, limit in ((3, 1, 2), (4, 0, 3), (5, 4, 4), (9, 3, 5), (16, 7, 15)):
            dice = Dice(top)
            for deep in (0, 1, 3):
                way = turned(dice, ("counts", top, end, limit), deep)
                sign = (back_to_end(way) + 1) % top
                edge = (0, limit - 2, limit - 1, limit, 2 * limit - 2)
                for many in edge:
                    self.assert_certain(way, [sign] * many, dice)
                    self.assert_certain(way, [sign] * many + [back_to_end(way)] + [sign] * many, dice)
                    self.assert_certain(way, [back_to_end(way)] * 2 + [sign] * many + [back_to_end(way)], dice)

    def test_ranks_tell_nothing_ahead_of_the_end_of_the_body(self):
        for seed, way in enumerate(way for way in some_ways(35) if inner_of(way)[0] == "ranks"):
            writer = Writer(way)
            body = Dice(seed).signs(range(top_of(way)), 60)
            self.assertEqual(written_by(writer, body), [[]] * 60)
            self.assertEqual(writer.close(), expected_frame(way, body))

    def test_of_many_ranks_the_common_beginnings(self):
        for top in range(3, 17):
            way = ("ranks", top, top - 1)
            for sign in (0, top // 2, top - 1):
                for many in (1, 2, 30, 59, 60):
                    longer = [[sign] * many + [more] * left for more in (0, top - 1) for left in range(26)]
                    self.assertEqual(common([expected_frame(way, body) for body in longer]), [])


class Refused(unittest.TestCase):

    WAYS = (CODES, ESCAPES, COUNTS, RANKS, TURNED, *ALIKE[3:])

    def assert_refused(self, writer, sign, at):
        with self.assertRaises(BadBody) as refusal:
            writer.put(sign)
        self.assertEqual(refusal.exception.at, at)

    def test_no_sign_at_any_place(self):
        for way in self.WAYS:
            top = top_of(way)
            for wrong in (-1, -top, top, top + 1, 10 ** 20, True, False):
                body = Dice(top).signs(range(top), 60)
                writer = Writer(way)
                for at in (0, 1, 29, 59):
                    told = []
                    for many, sign in enumerate(body):
                        if many == at:
                            self.assert_refused(writer, wrong, at)
                            self.assert_refused(writer, wrong, at)
                        told += writer.put(sign)
                    with self.subTest(way=way, wrong=wrong, at=at):
                        self.assertEqual(told + writer.close(), expected_frame(way, body))

    def test_more_than_sixty_signs(self):
        for way in self.WAYS:
            top = top_of(way)
            body = Dice(top).signs(range(top), 60)
            writer = Writer(way)
            for _ in range(2):
                told = sum(written_by(writer, body), [])
                for sign in (0, 2, top - 1, -1, top, True, 10 ** 20, 0):
                    self.assert_refused(writer, sign, 60)
                with self.subTest(way=way):
                    self.assertEqual(told + writer.close(), expected_frame(way, body))

    def test_ahead_of_the_first_of_the_next_body(self):
        for way in self.WAYS:
            writer = Writer(way)
            written_by(writer, [0, 1, 2])
            writer.close()
            self.assert_refused(writer, -1, 0)
            self.assertEqual(sum(written_by(writer, [2, 1]), []) + writer.close(), expected_frame(way, [2, 1]))

    def test_closed_behind_a_refusal(self):
        for way in self.WAYS:
            writer = Writer(way)
            self.assert_refused(writer, top_of(way), 0)
            self.assertEqual(writer.close(), expected_frame(way, []))


class NewLists(unittest.TestCase):

    def test_told_lists_may_be_changed(self):
        for way in (CODES, ESCAPES, COUNTS, RANKS, TURNED):
            body = [2, 0, 1, 2, 0, 1, 1, 1, 0, 2]
            writer = Writer(way)
            for _ in range(3):
                told = []
                for sign in body:
                    news = writer.put(sign)
                    self.assertIsInstance(news, list)
                    told += news
                    news.extend([0, 0])
                closing = writer.close()
                self.assertEqual(told + closing, expected_frame(way, body))
                closing.clear()


if __name__ == "__main__":
    unittest.main()
