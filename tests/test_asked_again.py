"""Point 1: nothing handed in is changed or kept, what is told is the asker's, and answers stay the same."""

import unittest

from escaperow.errors import BadBody, BadSigns, BadWay, RowError
from escaperow.frames import body_of, framed
from escaperow.notes import read_way, written
from escaperow.parting import parted
from escaperow.rooms import frames_of, least_room, worst
from escaperow.streams import Reader, Writer, read
from escaperow.ways import need_way
from helper import some_bodies, some_ways, top_of


class HandedIn(unittest.TestCase):

    def test_a_body_is_the_same_behind(self):
        for seed, way in enumerate(some_ways(15)):
            for body in some_bodies(way, seed):
                handed = list(body)
                frame = framed(way, handed)
                with self.subTest(way=way, body=body):
                    self.assertEqual(handed, body)
                    self.assertIsNot(frame, handed)

    def test_signs_are_the_same_behind(self):
        for seed, way in enumerate(some_ways(16)):
            for body in some_bodies(way, seed):
                frame = framed(way, body)
                handed = list(frame)
                body_of(way, handed)
                body_of(way, handed[:-1])
                with self.subTest(way=way, body=body):
                    self.assertEqual(handed, frame)

    def test_what_is_refused_is_the_same_behind(self):
        way = ("counts", 5, 0, 3)
        for ask, signs, error in ((framed, [1, 5, -1], BadBody), (framed, [1] * 70, BadBody),
                                  (body_of, [1, 5, -1], BadSigns), (body_of, [1] * 410, BadSigns),
                                  (read, [0, 1, 5, -1], BadSigns), (read, [0] * 410, BadSigns)):
            handed = list(signs)
            with self.assertRaises(error):
                ask(way, handed)
            self.assertEqual(handed, signs)

    def test_signs_that_are_read_are_the_same_behind(self):
        for seed, way in enumerate(some_ways(16)[::2]):
            reader = Reader(way)
            for body in some_bodies(way, seed):
                frame = framed(way, body)
                handed = list(frame)
                read(way, handed)
                reader.put(handed)
                with self.subTest(way=way, body=body):
                    self.assertEqual(handed, frame)

    def test_what_is_handed_in_may_be_changed_behind(self):
        for way in some_ways(17):
            body = [0, 1, 2]
            frame = framed(way, body)
            as_told = list(frame)
            body.extend([0] * 9)
            self.assertEqual(frame, as_told)
            told = body_of(way, frame)
            frame.clear()
            self.assertEqual(told, [0, 1, 2])


class Told(unittest.TestCase):

    def test_a_told_list_may_be_changed(self):
        for seed, way in enumerate(some_ways(18)):
            for body in some_bodies(way, seed)[:8]:
                frame = framed(way, body)
                as_told = list(frame)
                frame.append(0)
                frame[0] = 1
                with self.subTest(way=way, body=body):
                    self.assertEqual(framed(way, body), as_told)
                    told = body_of(way, as_told)
                    told.append(0)
                    self.assertEqual(body_of(way, as_told), body)


class AskedAgain(unittest.TestCase):

    def answers(self, ways):
        """The answers to the same questions, asked in this order of ways."""
        told = {}
        for way in ways:
            for body in ([], [0, 1, 2], [2] * 60):
                frame = framed(way, body)
                told[way, len(body)] = (frame, body_of(way, frame), body_of(way, frame[1:]), need_way(way),
                                        read(way, frame + frame[:1]), worst(way, len(body)),
                                        frames_of(way, len(body)), least_room(top_of(way), len(body)),
                                        parted(way, ("ranks", top_of(way), 1)), written(way), read_way(written(way)))
        return told

    def scribble(self, answers):
        """Change all lists that were told."""
        for told in answers:
            if isinstance(told, list):
                self.scribble(told)
                told.extend([1, 0, 2])
            if isinstance(told, tuple):
                self.scribble(told)

    def test_the_same_question_has_the_same_answer(self):
        ways = some_ways(19)[::2]
        first = self.answers(ways)
        self.assertEqual(self.answers(ways), first)
        self.assertEqual(self.answers(ways[::-1]), first)

    def test_the_same_answer_when_told_lists_were_changed(self):
        ways = some_ways(19)[::3]
        first = self.answers(ways)
        self.scribble(list(self.answers(ways).values()))
        self.assertEqual(self.answers(ways), first)

    def test_readers_and_writers_made_ahead_go_on(self):
        ways = some_ways(20)[::3]
        readers = [Reader(way) for way in ways]
        writers = [Writer(way) for way in ways]
        body = [2, 0, 1, 1, 2]
        frames = [framed(way, body) for way in ways]
        began = [writer.put(2) + writer.put(0) for writer in writers]
        for reader, frame in zip(readers, frames):
            reader.put(frame[:2])
        self.scribble(list(self.answers(ways).values()))
        for at, way in enumerate(ways):
            with self.subTest(way=way):
                went_on = sum([writers[at].put(sign) for sign in body[2:]], began[at])
                self.assertEqual(went_on + writers[at].close(), frames[at])
                self.assertEqual(readers[at].put(frames[at][2:] + [0]), [body] + read(way, [0])[0])

    def test_the_same_refusal(self):
        def refusal(ask, *asked):
            with self.assertRaises(RowError) as refused:
                ask(*asked)
            return vars(refused.exception)

        bad = ("ranks", 2, 0)
        way = ("ranks", 3, 0)
        for _ in range(3):
            self.assertEqual(refusal(need_way, bad), {"why": "top"})
            self.assertEqual(refusal(framed, way, [0, 3]), {"at": 1})
            self.assertEqual(refusal(body_of, way, [3]), {"at": 0})
            self.assertEqual(refusal(read, way, [0, 0, True]), {"at": 2})
            self.assertEqual(refusal(Writer(way).put, 3), {"at": 0})
            self.assertEqual(refusal(least_room, 2, 0), {"why": "top"})
            self.assertEqual(refusal(parted, way, ("ranks", 4, 0)), {})
            self.assertEqual(refusal(read_way, "ranks 3"), {})
            self.assertEqual(refusal(read_way, "ranks 2 0"), {"why": "top"})
            self.assertEqual(framed(way, [0]), [1, 0])
        with self.assertRaises(BadWay):
            framed(bad, [0])


if __name__ == "__main__":
    unittest.main()
