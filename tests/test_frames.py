"""Point 4: frames are put together as it says, and what is no body is refused."""

import unittest

from escaperow.errors import BadBody
from escaperow.frames import body_of, framed
from helper import back_to_end, end_of, expected_frame, lists_of, plain_of, small_ways, some_bodies, some_ways, top_of

CODES = ("codes", 4, 0, ((1,), (2, 2), (2, 3, 1), (3, 1, 1, 1)))
ESCAPES = ("escapes", 5, 4, 2, ((1, 0), (2, 3), (4, 2)))
COUNTS = ("counts", 7, 2, 4)
RANKS = ("ranks", 3, 1)


class WrittenOut(unittest.TestCase):
    """Frames that were put together by hand."""

    def assert_frames(self, way, frames):
        for body, frame in frames:
            with self.subTest(way=way, body=body):
                self.assertEqual(framed(way, body), frame)

    def test_by_codes(self):
        self.assert_frames(CODES, (
            ([], [0]),
            ([0], [1, 0]),
            ([3, 2, 1, 0], [3, 1, 1, 1, 2, 3, 1, 2, 2, 1, 0]),
            ([0, 0, 1], [1, 1, 2, 2, 0]),
        ))

    def test_by_escapes(self):
        self.assert_frames(ESCAPES, (
            ([], [4]),
            ([0, 3], [0, 3, 4]),
            ([4], [2, 2, 4]),
            ([2, 1, 0], [2, 3, 2, 0, 0, 4]),
            ([4, 4, 3], [2, 2, 2, 2, 3, 4]),
        ))

    def test_by_counts(self):
        # The counts 1 to 4 are the plain signs 0, 1, 3, 4.
        self.assert_frames(COUNTS, (
            ([], [0, 2]),
            ([2], [0, 0, 2]),
            ([2, 2, 2], [0, 0, 0, 0, 2]),
            ([6], [1, 6, 2]),
            ([6, 5], [3, 6, 5, 2]),
            ([6, 5, 6], [4, 6, 5, 6, 2]),
            ([6, 5, 6, 0], [4, 6, 5, 6, 1, 0, 2]),
            ([6, 5, 6, 0, 0, 0], [4, 6, 5, 6, 4, 0, 0, 0, 2]),
            ([6, 5, 6, 0, 0, 0, 1], [4, 6, 5, 6, 4, 0, 0, 0, 1, 1, 2]),
            ([6, 5, 6, 2], [4, 6, 5, 6, 0, 0, 2]),
            ([2, 6, 5, 6], [0, 4, 6, 5, 6, 2]),
            ([6, 5, 6, 2, 6, 5, 6], [4, 6, 5, 6, 0, 4, 6, 5, 6, 2]),
            ([6, 5, 6, 2, 1], [4, 6, 5, 6, 0, 1, 1, 2]),
            ([6, 5, 2, 2, 1], [3, 6, 5, 0, 1, 1, 2]),
        ))

    def test_by_counts_of_the_least_limit(self):
        self.assert_frames(("counts", 3, 0, 2), (
            ([], [1, 0]),
            ([1], [2, 1, 0]),
            ([1, 2], [2, 1, 2, 2, 0]),
            ([1, 0], [2, 1, 1, 1, 0]),
            ([0, 1], [1, 2, 1, 0]),
        ))

    def test_by_ranks(self):
        self.assert_frames(RANKS, (
            ([], [1]),
            ([0], [0, 1]),
            ([1], [2, 1]),
            ([2], [0, 0, 1]),
            ([0, 0], [0, 2, 1]),
            ([0, 1], [2, 0, 1]),
            ([0, 2], [2, 2, 1]),
            ([1, 0], [0, 0, 0, 1]),
            ([2, 2], [2, 0, 2, 1]),
            ([0, 0, 0], [2, 2, 0, 1]),
        ))

    def test_turned(self):
        turning = (2, 0, 1, 4, 3)
        self.assert_frames(("turned", turning, ESCAPES), (
            ([], [4]),
            ([3], [2, 2, 4]),
            ([4, 1, 2, 0], [3, 0, 2, 0, 2, 3, 4]),
        ))
        self.assert_frames(("turned", (0, 2, 1), ("turned", (1, 2, 0), RANKS)), (
            ([0], [2, 1]),
            ([1], [0, 1]),
            ([2], [0, 0, 1]),
        ))


class PutTogether(unittest.TestCase):
    """Frames against those that the tests put together themselves."""

    def test_all_sorts_tops_and_turnings(self):
        for seed, way in enumerate(some_ways(2)):
            for body in some_bodies(way, seed):
                with self.subTest(way=way, body=body):
                    self.assertEqual(framed(way, body), expected_frame(way, body))

    def test_all_short_bodies_of_small_tops(self):
        for top, most in ((3, 5), (4, 4)):
            bodies = lists_of(range(top), most)
            for way in small_ways(top):
                with self.subTest(way=way):
                    self.assertEqual([framed(way, body) for body in bodies],
                                     [expected_frame(way, body) for body in bodies])

    def test_the_frame_is_a_list_with_the_end_once_as_its_last(self):
        for seed, way in enumerate(some_ways(3)):
            end = end_of(way)
            for body in some_bodies(way, seed):
                frame = framed(way, body)
                with self.subTest(way=way, body=body):
                    self.assertIsInstance(frame, list)
                    self.assertEqual((frame.count(end), frame[-1]), (1, end))


class Ranks(unittest.TestCase):

    def test_all_bodies_have_all_lists_in_their_order(self):
        for top, most in ((3, 7), (4, 5), (5, 4), (6, 3)):
            for end in range(top):
                bodies = lists_of(range(top), most)
                longest = len(expected_frame(("ranks", top, end), bodies[-1])) - 1
                rows = lists_of(plain_of(top, end), longest)[:len(bodies)]
                with self.subTest(top=top, end=end):
                    self.assertEqual([framed(("ranks", top, end), body) for body in bodies],
                                     [row + [end] for row in rows])

    def test_the_last_body_of_sixty(self):
        for top in (3, 9, 16):
            for end in (0, top - 1):
                way = ("ranks", top, end)
                for body in ([top - 1] * 60, [0] * 60, [top - 1] * 59):
                    with self.subTest(way=way, body=body):
                        self.assertEqual(framed(way, body), expected_frame(way, body))


class Counts(unittest.TestCase):

    def ways(self):
        for top in (3, 4, 5, 9, 16):
            for end in (0, top // 2, top - 1):
                for limit in range(2, top):
                    yield ("counts", top, end, limit)
        yield ("turned", (3, 1, 0, 4, 2), ("counts", 5, 2, 3))

    def assert_framed(self, way, body):
        body = body[:60]
        frame = framed(way, body)
        with self.subTest(way=way, body=body):
            self.assertEqual(frame, expected_frame(way, body))
            self.assertEqual(body_of(way, frame), body)

    def test_rows_at_each_edge_of_a_group(self):
        for way in self.ways():
            end = back_to_end(way)
            limit = way[-1] if way[0] == "counts" else way[2][-1]
            plain = plain_of(top_of(way), end)
            for many in (limit - 2, limit - 1, limit, 2 * limit - 3, 2 * limit - 2, 2 * limit - 1):
                row = (plain * 20)[:many]
                self.assert_framed(way, row)
                self.assert_framed(way, row + [end])
                self.assert_framed(way, [end] + row)
                self.assert_framed(way, [end] + row + [end])
                self.assert_framed(way, row + [end] + row)
                self.assert_framed(way, row + [end, end] + row[:1])

    def test_empty_bodies_and_bodies_of_ends_alone(self):
        for way in self.ways():
            for many in (0, 1, 2, 3, 59, 60):
                self.assert_framed(way, [back_to_end(way)] * many)


class Refused(unittest.TestCase):

    WAYS = (CODES, ESCAPES, COUNTS, RANKS, ("turned", (1, 0, 3, 2), CODES),
            ("turned", (1, 0, 2), ("turned", (2, 0, 1), ("turned", (1, 2, 0), RANKS))))

    def assert_refused(self, way, body, at):
        with self.subTest(way=way, body=body):
            with self.assertRaises(BadBody) as refusal:
                framed(way, body)
            self.assertEqual(refusal.exception.at, at)

    def test_more_than_sixty_signs(self):
        for way in self.WAYS:
            for many in (61, 62, 100, 1000):
                self.assert_refused(way, [1] * many, 60)

    def test_sixty_signs_are_let_go(self):
        for way in self.WAYS:
            self.assertEqual(framed(way, [1] * 60), expected_frame(way, [1] * 60))

    def test_no_sign_at_some_place(self):
        for way in self.WAYS:
            top = top_of(way)
            for wrong in (-1, -top, top, top + 1, 10 ** 20, True, False):
                for many in (1, 2, 7, 60):
                    for at in (0, many // 2, many - 1):
                        body = [1] * many
                        body[at] = wrong
                        self.assert_refused(way, body, at)

    def test_the_first_of_several_is_told(self):
        for way in self.WAYS:
            top = top_of(way)
            self.assert_refused(way, [0, top, -1, 0], 1)
            self.assert_refused(way, [0, -1, top, -1], 1)
            self.assert_refused(way, [top] * 60, 0)

    def test_sixty_is_told_ahead_of_what_is_no_sign(self):
        for way in self.WAYS:
            for at in (0, 30, 59, 60, 61):
                for wrong in (-1, top_of(way)):
                    body = [1] * 62
                    body[at] = wrong
                    self.assert_refused(way, body, 60)


if __name__ == "__main__":
    unittest.main()
