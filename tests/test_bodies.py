"""Point 5: body_of tells of which body a list is the frame, and refuses what is no list of signs."""

import unittest

from escaperow.errors import BadSigns
from escaperow.frames import body_of, framed
from helper import (Dice, end_of, expected_body, expected_frame, inner_of, lists_of, plain_of, small_ways, some_bodies,
                    some_ways, top_of)

CODES = ("codes", 4, 0, ((1,), (2, 2), (2, 3, 1), (3, 1, 1, 1)))
ESCAPES = ("escapes", 5, 4, 2, ((1, 0), (2, 3), (4, 2)))
COUNTS = ("counts", 7, 2, 4)
RANKS = ("ranks", 3, 1)
TURNED = ("turned", (1, 2, 0), ("turned", (0, 2, 1), RANKS))


class Bodies(unittest.TestCase):

    def assert_body(self, way, signs, body):
        with self.subTest(way=way, signs=signs):
            self.assertEqual(body_of(way, signs), body)


class OfFrames(Bodies):

    def test_the_body_comes_back_as_a_new_list(self):
        for seed, way in enumerate(some_ways(4)):
            for body in some_bodies(way, seed):
                frame = framed(way, body)
                self.assert_body(way, frame, body)
                self.assertIsInstance(body_of(way, frame), list)
                self.assertIsNot(body_of(way, frame), body_of(way, frame))

    def test_without_its_last_sign_it_is_none(self):
        for seed, way in enumerate(some_ways(5)):
            for body in some_bodies(way, seed):
                self.assert_body(way, framed(way, body)[:-1], None)

    def test_with_the_end_twice_it_is_none(self):
        for seed, way in enumerate(some_ways(6)):
            end = end_of(way)
            for body in some_bodies(way, seed):
                frame = framed(way, body)
                half = len(frame) // 2
                self.assert_body(way, frame + [end], None)
                self.assert_body(way, [end] + frame, None)
                self.assert_body(way, frame[:half] + [end] + frame[half:], None)

    def test_two_frames_together_are_none(self):
        for seed, way in enumerate(some_ways(7)):
            self.assert_body(way, framed(way, [0, 1]) + framed(way, [2]), None)


class WrittenOut(Bodies):
    """Lists that were read by hand."""

    def test_by_codes(self):
        for signs, body in (([1, 2, 2, 0], [0, 1]), ([0], []), ([2, 3, 1, 0], [2])):
            self.assert_body(CODES, signs, body)
        for signs in ([2, 0], [2, 1, 0], [3, 1, 1, 0], [1, 2, 3, 0], [2, 2, 2, 0], [], [1], [3, 3, 3, 3, 3, 3, 0]):
            self.assert_body(CODES, signs, None)

    def test_by_escapes(self):
        for signs, body in (([4], []), ([0, 3, 4], [0, 3]), ([2, 2, 2, 3, 4], [4, 2]), ([2, 0, 0, 4], [1, 0])):
            self.assert_body(ESCAPES, signs, body)
        for signs in ([2, 4], [1, 4], [2, 1, 4], [0, 2, 4], [2, 2, 2, 4], [3, 1, 4], [2, 2, 1, 4]):
            self.assert_body(ESCAPES, signs, None)

    def test_by_counts(self):
        for signs, body in (([0, 2], []), ([0, 0, 2], [2]), ([4, 6, 5, 6, 2], [6, 5, 6]),
                            ([4, 6, 5, 6, 0, 0, 2], [6, 5, 6, 2]), ([3, 0, 0, 0, 2], [0, 0, 2])):
            self.assert_body(COUNTS, signs, body)
        for signs in ([2], [4, 6, 5, 6, 0, 2], [0, 4, 6, 5, 6, 0, 2], [1, 2], [3, 6, 2], [4, 6, 5, 2], [5, 6, 2],
                      [5, 0, 0, 0, 0, 2], [6, 2], [0, 4, 2], [4, 6, 5, 6, 4, 6, 5, 6, 0, 2], [0, 6, 0, 0, 0, 0, 0, 2]):
            self.assert_body(COUNTS, signs, None)

    def test_by_ranks(self):
        for signs, body in (([1], []), ([0, 0, 1], [2]), ([2, 0, 2, 1], [2, 2]), ([2, 2, 0, 1], [0, 0, 0])):
            self.assert_body(RANKS, signs, body)
        for signs in ([], [0], [1, 1], [0, 1, 2], [1, 0]):
            self.assert_body(RANKS, signs, None)

    def test_turned(self):
        for signs, body in (([1], []), ([0, 1], [2]), ([2, 1], [1]), ([0, 0, 1], [0]), ([2, 0, 1], [2, 1])):
            self.assert_body(TURNED, signs, body)


class OfShortLists(Bodies):

    def test_all_lists_of_up_to_four_signs(self):
        for top in (3, 4):
            # A frame of four signs has a body of three at the most.
            bodies = lists_of(range(top), 4)
            lists = lists_of(range(top), 4)
            for way in small_ways(top):
                known = {tuple(expected_frame(way, body)): body for body in bodies}
                self.assertEqual(len(known), len(bodies))
                with self.subTest(way=way):
                    self.assertEqual([body_of(way, signs) for signs in lists],
                                     [known.get(tuple(signs)) for signs in lists])

    def test_all_lists_of_plain_signs_are_frames_by_ranks(self):
        for end in range(3):
            way = ("ranks", 3, end)
            bodies = [body_of(way, row + [end]) for row in lists_of(plain_of(3, end), 9)]
            self.assertEqual(bodies, lists_of(range(3), 6)[:len(bodies)])

    def test_the_empty_list_and_the_end_alone(self):
        for way in some_ways(8):
            self.assert_body(way, [], None)
            self.assert_body(way, [end_of(way)], None if inner_of(way)[0] == "counts" else [])
            for sign in plain_of(top_of(way), end_of(way)):
                self.assert_body(way, [sign], None)


class OfLongLists(Bodies):

    def assert_read(self, way, signs):
        body = body_of(way, signs)
        with self.subTest(way=way, signs=signs):
            self.assertEqual(body, expected_body(way, signs))
            if body is not None:
                self.assertEqual(expected_frame(way, body), signs)

    def test_frames_with_a_sign_exchanged_left_out_or_put_in(self):
        for seed, way in enumerate(some_ways(9)):
            dice = Dice(seed)
            for body in some_bodies(way, seed)[-18:]:
                frame = expected_frame(way, body)
                for at in [dice.below(len(frame)) for _ in range(3)] + [0, len(frame) - 1]:
                    sign = dice.below(top_of(way))
                    self.assert_read(way, frame[:at] + [sign] + frame[at + 1:])
                    self.assert_read(way, frame[:at] + frame[at + 1:])
                    self.assert_read(way, frame[:at] + [sign] + frame[at:])

    def test_frames_of_sixty_signs(self):
        for seed, way in enumerate(some_ways(10)):
            dice = Dice(seed)
            for letters in (range(top_of(way)), [0], [top_of(way) - 1]):
                body = dice.signs(letters, 60)
                self.assert_body(way, expected_frame(way, body), body)

    def test_what_would_be_the_frame_of_more_is_none(self):
        for seed, way in enumerate(some_ways(11)):
            dice = Dice(seed)
            for letters in (range(top_of(way)), [0], [top_of(way) - 1]):
                for many in (61, 62, 63, 70, 120):
                    frame = expected_frame(way, dice.signs(letters, many))
                    if len(frame) <= 250:
                        self.assert_body(way, frame, None)

    def test_the_last_rank_of_sixty_signs_and_the_first_of_more(self):
        for top in range(3, 17):
            way = ("ranks", top, top // 2)
            self.assert_body(way, expected_frame(way, [top - 1] * 60), [top - 1] * 60)
            self.assert_body(way, expected_frame(way, [0] * 61), None)

    def test_frames_by_another_way(self):
        ways = some_ways(12)
        for seed, (way, other) in enumerate(zip(ways, ways[1:])):
            if top_of(way) == top_of(other):
                for body in some_bodies(way, seed):
                    self.assert_read(other, expected_frame(way, body))
                    self.assert_read(other, expected_frame(way, body)[:-1] + [end_of(other)])

    def test_any_lists(self):
        for seed, way in enumerate(some_ways(13)):
            dice = Dice(seed)
            end = end_of(way)
            for many in (1, 2, 3, 5, 9, 20, 60, 120, 249):
                self.assert_read(way, dice.signs(plain_of(top_of(way), end), many) + [end])
                self.assert_read(way, dice.signs(range(top_of(way)), many))

    def test_long_lists_of_one_sign(self):
        for way in some_ways(14):
            end = end_of(way)
            for sign in range(top_of(way)):
                for many in (30, 61, 100, 249):
                    self.assert_read(way, [sign] * many + [end])


class Refused(Bodies):

    WAYS = (CODES, ESCAPES, COUNTS, RANKS, TURNED)

    def assert_refused(self, way, signs, at):
        with self.subTest(way=way, signs=signs):
            with self.assertRaises(BadSigns) as refusal:
                body_of(way, signs)
            self.assertEqual(refusal.exception.at, at)

    def test_no_sign_at_some_place(self):
        for way in self.WAYS:
            top = top_of(way)
            for wrong in (-1, -top, top, top + 1, 10 ** 20, True, False):
                for many in (1, 2, 9, 250, 400):
                    for at in (0, many // 2, many - 1):
                        signs = [1] * many
                        signs[at] = wrong
                        self.assert_refused(way, signs, at)

    def test_the_first_of_several_is_told(self):
        for way in self.WAYS:
            top = top_of(way)
            self.assert_refused(way, [0, top, -1, 0], 1)
            self.assert_refused(way, [0, 0, -1, top], 2)
            self.assert_refused(way, [top] * 400, 0)

    def test_more_than_four_hundred_signs(self):
        for way in self.WAYS:
            for many in (401, 402, 1000):
                for sign in (0, 1, 2):
                    self.assert_refused(way, [sign] * many, 400)

    def test_four_hundred_signs_are_let_go(self):
        for way in self.WAYS:
            end = end_of(way)
            body_of(way, [plain_of(top_of(way), end)[0]] * 400)
            body_of(way, [end] * 400)

    def test_more_signs_and_no_sign(self):
        for way in self.WAYS:
            for wrong in (-1, top_of(way)):
                for at in (0, 1, 200, 398, 399, 400, 401, 409):
                    signs = [1] * 410
                    signs[at] = wrong
                    self.assert_refused(way, signs, min(at, 400))

    def test_no_sign_as_the_only_one_too_many(self):
        for way in self.WAYS:
            self.assert_refused(way, [1] * 400 + [-1], 400)
            self.assert_refused(way, [1] * 400 + [top_of(way)], 400)


if __name__ == "__main__":
    unittest.main()
