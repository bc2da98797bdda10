"""Points 6 and 7: readers tell bodies as the ends come, in whatever pieces, and faults cost no other frames."""

import unittest

from escaperow.errors import BadSigns
from escaperow.streams import Reader, read
from helper import Dice, end_of, expected_body, expected_frame, plain_of, some_bodies, some_ways, top_of

CODES = ("codes", 4, 0, ((1,), (2, 2), (2, 3, 1), (3, 1, 1, 1)))
ESCAPES = ("escapes", 5, 4, 2, ((1, 0), (2, 3), (4, 2)))
COUNTS = ("counts", 7, 2, 4)
RANKS = ("ranks", 3, 1)
TURNED = ("turned", (1, 2, 0), ("turned", (0, 2, 1), RANKS))
WAYS = (CODES, ESCAPES, COUNTS, RANKS, TURNED)


def stretches(way, signs):
    """The signs parted behind each end: a list of those with an end, and what is behind the latest one."""
    whole, rest = [], []
    for sign in signs:
        rest.append(sign)
        if sign == end_of(way):
            whole.append(rest)
            rest = []
    return whole, rest


def expected(way, signs):
    """What a new reader tells of signs, of any number of them, and its rest."""
    whole, rest = stretches(way, signs)
    return [expected_body(way, stretch) if len(stretch) < 300 else None for stretch in whole], rest


def some_signs(way, seed, many=6):
    """Frames one behind another, as they are or with a sign exchanged, left out or put in; at last a part of one."""
    dice = Dice(seed)
    bodies = [dice.pick(some_bodies(way, seed)) for _ in range(many)]
    signs = []
    for body in bodies:
        frame = expected_frame(way, body)
        at = dice.below(len(frame))
        sign = dice.below(top_of(way))
        signs += dice.pick((frame, frame, frame, frame[:at] + [sign] + frame[at + 1:], frame[:at] + frame[at + 1:],
                            frame[:at] + [sign] + frame[at:]))
    return signs + expected_frame(way, bodies[0])[:dice.below(9)]


def cut(dice, signs, sizes):
    """The signs in pieces, each of one of the sizes."""
    pieces = []
    at = 0
    while at < len(signs):
        size = dice.pick(sizes)
        pieces.append(signs[at:at + size])
        at += size
    return pieces


class WrittenOut(unittest.TestCase):
    """What was read by hand."""

    def assert_read(self, way, signs, bodies, rest):
        with self.subTest(way=way, signs=signs):
            told = read(way, signs)
            self.assertEqual(told, (bodies, rest))
            self.assertIsInstance(told, tuple)

    def test_read(self):
        self.assert_read(CODES, [1, 2, 2, 0, 0, 2, 0, 2, 3, 1, 0, 3, 1], [[0, 1], [], None, [2]], [3, 1])
        self.assert_read(ESCAPES, [2, 2, 2, 3, 4, 2, 4, 4], [[4, 2], None, []], [])
        self.assert_read(COUNTS, [4, 6, 5, 6, 2, 2, 0, 2, 1, 5], [[6, 5, 6], None, []], [1, 5])
        self.assert_read(RANKS, [1, 0, 0, 1, 2, 0, 2, 1, 2], [[], [2], [2, 2]], [2])
        self.assert_read(TURNED, [1, 0, 1, 2, 1, 0], [[], [2], [1]], [0])

    def test_nothing(self):
        for way in WAYS:
            self.assert_read(way, [], [], [])

    def test_a_reader(self):
        reader = Reader(COUNTS)
        self.assertEqual(reader.rest(), [])
        self.assertEqual(reader.put([4, 6]), [])
        self.assertEqual(reader.put([]), [])
        self.assertEqual(reader.rest(), [4, 6])
        self.assertEqual(reader.put([5, 6, 2, 0]), [[6, 5, 6]])
        self.assertEqual(reader.rest(), [0])
        self.assertEqual(reader.put([2, 2]), [[], None])
        self.assertEqual(reader.rest(), [])


class Pieces(unittest.TestCase):

    SIZES = ((1,), (0, 1), (2, 3), (0, 0, 7), (1, 5, 40), (100,), (400,))

    def test_read_of_all_at_once(self):
        for seed, way in enumerate(some_ways(21)):
            signs = some_signs(way, seed)[:300]
            with self.subTest(way=way, signs=signs):
                self.assertEqual(read(way, signs), expected(way, signs))

    def test_whatever_the_pieces(self):
        for seed, way in enumerate(some_ways(22)):
            dice = Dice(seed)
            signs = some_signs(way, seed)
            bodies, rest = expected(way, signs)
            for sizes in self.SIZES:
                reader = Reader(way)
                told = []
                put = []
                for piece in cut(dice, signs, sizes):
                    told += reader.put(piece)
                    put += piece
                    self.assertEqual(reader.rest(), stretches(way, put)[1])
                with self.subTest(way=way, signs=signs, sizes=sizes):
                    self.assertEqual((told, reader.rest()), (bodies, rest))

    def test_each_put_tells_of_the_ends_in_its_piece(self):
        for seed, way in enumerate(some_ways(23)[::3]):
            signs = some_signs(way, seed)
            bodies, _ = expected(way, signs)
            reader = Reader(way)
            for sign in signs:
                self.assertEqual(reader.put([sign]), [bodies.pop(0)] if sign == end_of(way) else [])
            self.assertEqual(bodies, [])

    def test_readers_in_turn(self):
        ways = list(WAYS) + some_ways(24)[::7] + list(WAYS)
        readers = [Reader(way) for way in ways]
        streams = [some_signs(way, seed) for seed, way in enumerate(ways)]
        told = [[] for _ in ways]
        dice = Dice(24)
        left = [list(signs) for signs in streams]
        while any(left):
            for at, reader in enumerate(readers):
                size = dice.below(12)
                told[at] += reader.put(left[at][:size])
                del left[at][:size]
        for at, way in enumerate(ways):
            with self.subTest(way=way):
                self.assertEqual((told[at], readers[at].rest()), expected(way, streams[at]))


class Lengths(unittest.TestCase):

    def test_frames_of_sixty_signs_and_of_one_more(self):
        for seed, way in enumerate(some_ways(25)):
            dice = Dice(seed)
            for letters in (range(top_of(way)), [0], [top_of(way) - 1]):
                body = dice.signs(letters, 60)
                longer = expected_frame(way, body + [dice.pick(letters)])
                frame = expected_frame(way, body)
                reader = Reader(way)
                with self.subTest(way=way, body=body):
                    self.assertEqual(reader.put(frame + frame[:3]), [body])
                    self.assertEqual(reader.put(frame[3:]), [body])
                    self.assertEqual(reader.put(longer), [None])
                    self.assertEqual(reader.put(frame), [body])

    def test_three_hundred_of_one_sign(self):
        for way in WAYS:
            end = end_of(way)
            for sign in range(top_of(way)):
                signs = [sign] * 300
                with self.subTest(way=way, sign=sign):
                    self.assertEqual(read(way, signs), expected(way, signs))
                    reader = Reader(way)
                    reader.put(signs)
                    frame = expected_frame(way, [2, 0])
                    self.assertEqual(reader.put([end] + frame)[1:], [[2, 0]])

    def test_more_than_four_hundred_signs_between_two_ends(self):
        for way in WAYS:
            end = end_of(way)
            frame = expected_frame(way, [0, 1, 2])
            for sign in plain_of(top_of(way), end):
                reader = Reader(way)
                for many in range(1, 5):
                    self.assertEqual(reader.put([sign] * 250), [])
                    self.assertEqual(reader.rest(), [sign] * 250 * many)
                with self.subTest(way=way, sign=sign):
                    self.assertEqual(reader.put([end] + frame), [None, [0, 1, 2]])
                    self.assertEqual(reader.rest(), [])

    def test_many_frames(self):
        for way in WAYS:
            frame = expected_frame(way, [1, 0])
            reader = Reader(way)
            for _ in range(300):
                self.assertEqual(reader.put(frame * 4), [[1, 0]] * 4)

    def test_four_hundred_signs_are_let_go(self):
        for way in WAYS:
            self.assertEqual(len(Reader(way).put([end_of(way)] * 400)), 400)
            self.assertEqual(len(read(way, [end_of(way)] * 400)[0]), 400)


class Faults(unittest.TestCase):
    """Point 7: a stretch that is changed, lost or put in."""

    def told(self, way, signs):
        reader = Reader(way)
        bodies = []
        for at in range(0, len(signs), 90):
            bodies += reader.put(signs[at:at + 90])
        return bodies, reader.rest()

    def assert_kept(self, way, ahead, stretches_told, behind):
        """Whatever stands between, the same is told ahead of it and behind it, but for the first end."""
        end = end_of(way)
        many_behind = max(behind.count(end) - 1, 0)
        for between in stretches_told:
            bodies, rest = self.told(way, ahead + between + behind)
            alone, _ = self.told(way, ahead)
            with self.subTest(way=way, ahead=ahead, between=between, behind=behind):
                self.assertEqual(bodies[:len(alone)], alone)
                self.assertEqual(bodies[len(bodies) - many_behind:], self.told(way, behind)[0][1:])
                self.assertEqual(len(bodies), (ahead + between + behind).count(end))
                if end in behind:
                    self.assertEqual(rest, self.told(way, behind)[1])

    def test_what_is_told_of_other_frames_stays(self):
        for seed, way in enumerate(some_ways(26)):
            dice = Dice(seed)
            signs = some_signs(way, seed, 5)
            start = dice.below(len(signs))
            stop = start + dice.below(len(signs) - start)
            between = [signs[start:stop], [], dice.signs(range(top_of(way)), 9), [end_of(way)] * 2,
                       dice.signs(plain_of(top_of(way), end_of(way)), stop - start)]
            self.assert_kept(way, signs[:start], between, signs[stop:])


class Refused(unittest.TestCase):

    def assert_refused(self, way, signs, at):
        """read refuses them, and a reader goes on behind them as if they had not been put."""
        frame = expected_frame(way, [2, 1, 0])
        for begun in ([], frame[:1], frame[:-1], frame, frame + frame[:2]):
            reader = Reader(way)
            bodies, rest = [[2, 1, 0]] * begun.count(end_of(way)), stretches(way, begun)[1]
            self.assertEqual(reader.put(begun), bodies)
            with self.assertRaises(BadSigns) as refusal:
                reader.put(signs)
            self.assertEqual(refusal.exception.at, at)
            self.assertEqual(reader.rest(), rest)
            self.assertEqual(reader.put(frame[len(rest):] + frame), [[2, 1, 0]] * 2)
        with self.assertRaises(BadSigns) as refusal:
            read(way, signs)
        self.assertEqual(refusal.exception.at, at)

    def test_no_sign_at_any_place(self):
        for way in WAYS:
            top = top_of(way)
            for wrong in (-1, -top, top, 10 ** 20, True, False):
                for many in (1, 7, 400):
                    for at in (0, many // 2, many - 1):
                        for sign in (end_of(way), 0, 2):
                            signs = [sign] * many
                            signs[at] = wrong
                            with self.subTest(way=way, signs=signs):
                                self.assert_refused(way, signs, at)

    def test_more_than_four_hundred_signs(self):
        for way in WAYS:
            for many in (401, 402, 900):
                for sign in (end_of(way), 0, 1, 2):
                    with self.subTest(way=way, many=many, sign=sign):
                        self.assert_refused(way, [sign] * many, 400)

    def test_too_many_and_no_sign_among_them(self):
        for way in WAYS:
            for wrong in (-1, top_of(way)):
                for at in (0, 1, 399, 400, 401, 409):
                    signs = [end_of(way)] * 410
                    signs[at] = wrong
                    with self.subTest(way=way, at=at):
                        self.assert_refused(way, signs, min(at, 400))
                self.assert_refused(way, [1] * 400 + [wrong], 400)

    def test_the_first_of_several_is_told(self):
        for way in WAYS:
            self.assert_refused(way, [0, top_of(way), -1], 1)
            self.assert_refused(way, [end_of(way), 0, -1, True], 2)


class NewLists(unittest.TestCase):

    def test_told_lists_may_be_changed(self):
        for way in WAYS:
            frame = expected_frame(way, [0, 2])
            reader = Reader(way)
            for _ in range(4):
                told = reader.put(frame + frame + frame[:1])
                self.assertEqual(told, [[0, 2], [0, 2]])
                told[0].append(1)
                self.assertEqual(told[1], [0, 2])
                told.clear()
                rest = reader.rest()
                self.assertEqual(rest, frame[:1])
                rest.extend([0, 1, 2])
                self.assertEqual(reader.rest(), frame[:1])
                self.assertIsNot(reader.rest(), reader.rest())
                self.assertEqual(reader.put(frame[1:]), [[0, 2]])
            nothing = reader.put([])
            nothing.append(0)
            self.assertEqual(reader.put([]), [])

    def test_put_lists_may_be_changed_behind(self):
        for way in WAYS:
            frame = expected_frame(way, [2, 2])
            reader = Reader(way)
            piece = frame[:-1]
            self.assertEqual(reader.put(piece), [])
            self.assertEqual(piece, frame[:-1])
            piece.clear()
            self.assertEqual(reader.rest(), frame[:-1])
            piece.append(frame[-1])
            self.assertEqual(reader.put(piece), [[2, 2]])

    def test_its_own_rest_may_be_put(self):
        reader = Reader(ESCAPES)
        reader.put([0, 0])
        self.assertEqual(reader.put(reader.rest()), [])
        self.assertEqual(reader.put([4]), [[0, 0, 0, 0]])

    def test_read_tells_new_lists(self):
        for way in WAYS:
            frame = expected_frame(way, [1])
            signs = frame + frame[:1]
            bodies, rest = read(way, signs)
            bodies[0].append(0)
            bodies.append(None)
            rest.append(0)
            self.assertEqual(signs, frame + frame[:1])
            self.assertEqual(read(way, signs), ([[1]], frame[:1]))


if __name__ == "__main__":
    unittest.main()
