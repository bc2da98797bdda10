"""Point 12: ways are written in words, and read again; what is not so written is refused."""

import re
import unittest

from escaperow.errors import BadText, BadWay
from escaperow.notes import read_way, written
from escaperow.ways import need_way
from helper import Dice, small_ways, some_ways, top_of

NUMBER = "(0|[1-9][0-9]{0,2})"
SIGNS = NUMBER + "([.]" + NUMBER + ")*"
WITHIN = "|".join((f"codes {NUMBER} {NUMBER}( {SIGNS})*", f"escapes {NUMBER} {NUMBER} {NUMBER}( {NUMBER}:{NUMBER})*",
                   f"counts {NUMBER} {NUMBER} {NUMBER}", f"ranks {NUMBER} {NUMBER}"))
GRAMMAR = re.compile(f"(turned {SIGNS} )*({WITHIN})")

EXAMPLES = (
    (("codes", 4, 0, ((1,), (2, 2), (2, 3, 1), (3, 1, 1, 1))), "codes 4 0 1 2.2 2.3.1 3.1.1.1"),
    (("escapes", 5, 4, 2, ((1, 0), (2, 3), (4, 2))), "escapes 5 4 2 1:0 2:3 4:2"),
    (("escapes", 13, 10, 11, ((10, 0), (11, 12))), "escapes 13 10 11 10:0 11:12"),
    (("counts", 16, 15, 10), "counts 16 15 10"),
    (("ranks", 3, 1), "ranks 3 1"),
    (("turned", (1, 2, 0), ("ranks", 3, 1)), "turned 1.2.0 ranks 3 1"),
    (("turned", (1, 2, 0), ("turned", (0, 2, 1), ("turned", (0, 1, 2), ("codes", 3, 2, ((0,), (1, 0), (1, 1)))))),
     "turned 1.2.0 turned 0.2.1 turned 0.1.2 codes 3 2 0 1.0 1.1"),
)

BAD_TEXTS = (
    "", " ", "  ", "0", "3 0", "ranks", "ranks ", "ranks 3", "ranks 3 ", "ranks 3 0 ", " ranks 3 0", "ranks  3 0",
    "ranks 3  0", "ranks 3 0 1", "ranks 3 0 ranks 3 0", "ranks 3.0", "ranks 3 0.1", "ranks 3 0:1", "ranks ranks 3 0",
    "ranks 03 0", "ranks 3 00", "ranks 3 -0", "ranks 3 +0", "ranks -3 0", "ranks +3 0", "ranks 1000 0", "ranks 3 0003",
    "ranks x 0", "ranks 3 x", "ranks 3 1_0", "ranks 0x3 0", "ranks 3, 0", "ranks,3,0", "Ranks 3 0", "RANKS 3 0",
    "rank 3 0", "ranks3 0", "3 ranks 0", "3 0 ranks", "way 3 0", "turned", "turned ", "turned 0.1.2", "turned 0.1.2 ",
    "turned ranks 3 0", "turned  ranks 3 0", "turned 0.1.2  ranks 3 0", "turned 0.1.2 ranks 3",
    "turned 0 1 2 ranks 3 0",
    "turned .0.1.2 ranks 3 0", "turned 0.1.2. ranks 3 0", "turned 0..1.2 ranks 3 0", "turned . ranks 3 0",
    "turned 0:1:2 ranks 3 0", "turned 0.1.02 ranks 3 0", "turned 0.1.-2 ranks 3 0", "turned 0.1.2000 ranks 3 0",
    "turned 0,1,2 ranks 3 0", "turned 0.1.2 turned", "turned 0.1.2 turned 0.1.2", "turned turned 0.1.2 ranks 3 0",
    "turned 0.1.2 0.1.2 ranks 3 0", "turned 0.1.2 way 3 0", "ranks 3 0 turned 0.1.2",
    "codes", "codes 3", "codes 3 ", "codes 3 0 ", "codes 3 0 1 2.1 2.2 ", "codes 3 0  1 2.1 2.2",
    "codes 3 0 1 2.1. 2.2", "codes 3 0 1 .2.1 2.2", "codes 3 0 1 2..1 2.2", "codes 3 0 1 2:1 2.2",
    "codes 3 0 1 2.x 2.2", "codes 3 0 1 2.01 2.2",
    "codes 3 0 1 . 2.2", "codes 3 0 (1) 2.1 2.2", "codes 3.0 1 2.1 2.2", "codes 3 0. 1 2.1 2.2",
    "escapes", "escapes 5", "escapes 5 0", "escapes 5 0 ", "escapes 5 0 1 ", "escapes 5 0 1 0 1", "escapes 5 0 1 0:2 1",
    "escapes 5 0 1 0:2: 1:3", "escapes 5 0 1 :0:2 1:3", "escapes 5 0 1 0::2 1:3", "escapes 5 0 1 0.2 1.3",
    "escapes 5 0 1 0:2.1 1:3", "escapes 5 0 1 : 1:3", "escapes 5 0 1 0: 1:3", "escapes 5 0 1 :2 1:3",
    "escapes 5 0 1 0 :2 1:3", "escapes 5 0 1 0:02 1:3", "escapes 5 0 1 0:2  1:3", "escapes 5 0 0:2 1:3",
    "escapes 5 0 1 0:-2 1:3", "escapes 5 0 1 0:2:3", "escapes 5 0 1 0:1000",
    "counts", "counts 5", "counts 5 0", "counts 5 0 ", "counts 5 0 2 3", "counts 5 0 2 ", "counts 5 0 02",
    "counts 5 0 2.3", "counts 5 0 2:3", "counts 5 0 1000", "counts 5 0 -2", "counts  5 0 2", "counts 5 0 two",
)

# Written as ways are, but no ways.
BAD_WAYS = {
    "deep": ("turned 0.1.2 " * 4 + "ranks 3 0", "turned 0 " * 4 + "ranks 999 999", "turned 0.1.2 " * 3000 + "ranks 3 0",
             "turned 0.1 turned 7 turned 0.1.2 turned 5.5.5.5 counts 0 0 0", "turned 0.1.2 " * 4 + "codes 3 0"),
    "top": ("ranks 2 0", "ranks 17 0", "ranks 999 0", "ranks 0 0", "codes 2 0", "codes 17 0 1 2", "escapes 2 0 1",
            "counts 100 0 2", "turned 0.1 ranks 2 0", "ranks 2 2", "counts 999 999 999"),
    "end": ("ranks 3 3", "ranks 3 999", "codes 3 3 1 2.1 2.2", "escapes 5 5 1 0:2 1:3", "counts 5 5 2",
            "turned 0 ranks 3 4"),
    "codes": ("codes 3 0", "codes 3 0 1", "codes 3 0 1 2.1", "codes 3 0 1 2.1 2.2 2.2", "codes 3 0 1 2.1 2.2.2.2.2",
              "codes 3 0 1 2.1 2.0", "codes 3 0 1 2.1 2.3", "codes 3 0 1 2 1", "codes 3 0 1 1.2 2",
              "codes 3 0 1 2.1 2.999", "turned 0.0 codes 3 0 1 2 2", "codes 3 0 1 2.1 2.2 1.1.1.1.1.1.1"),
    "mark": ("escapes 5 0 0 0:2 1:3", "escapes 5 0 5 0:2 1:3", "escapes 5 0 999", "turned 1 escapes 5 0 0"),
    "pairs": ("escapes 5 0 1", "escapes 5 0 1 0:2", "escapes 5 0 1 1:2", "escapes 5 0 1 1:2 0:3",
              "escapes 5 0 1 0:2 1:2", "escapes 5 0 1 0:0 1:2", "escapes 5 0 1 0:2 1:5", "escapes 5 0 1 0:2 1:3 5:4",
              "escapes 5 0 1 0:2 0:3 1:4", "escapes 5 0 1 0:1 1:2 2:3 3:4 4:4 4:4"),
    "limit": ("counts 5 0 1", "counts 5 0 5", "counts 5 0 0", "counts 5 0 999", "turned 0 counts 5 0 5"),
    "signs": ("turned 0 ranks 3 0", "turned 0.1 ranks 3 0", "turned 0.1.2.3 ranks 3 0", "turned 0.1.1 ranks 3 0",
              "turned 1.2.3 ranks 3 0", "turned 0.1.2 turned 0.1.999 ranks 3 0",
              "turned 0.0.0 turned 0.1.2 turned 0.1.2 counts 3 0 2"),
}


def understood(text):
    """The way, good or bad, of a text that is so written."""
    words = text.split(" ")
    if words[0] == "turned":
        return ("turned", tuple(map(int, words[1].split("."))), understood(" ".join(words[2:])))
    if words[0] == "codes":
        return ("codes", int(words[1]), int(words[2]), tuple(tuple(map(int, word.split("."))) for word in words[3:]))
    if words[0] == "escapes":
        return ("escapes", *map(int, words[1:4]), tuple(tuple(map(int, word.split(":"))) for word in words[4:]))
    return (words[0], *map(int, words[1:]))


class Written(unittest.TestCase):

    def test_written_out(self):
        for way, text in EXAMPLES:
            with self.subTest(way=way):
                self.assertEqual(written(way), text)
                self.assertEqual(read_way(text), way)

    def test_what_is_written_is_read_to_the_same_way(self):
        for way in some_ways(61) + some_ways(62) + small_ways(3) + small_ways(4):
            text = written(way)
            with self.subTest(way=way):
                self.assertIsNotNone(GRAMMAR.fullmatch(text))
                self.assertEqual(read_way(text), way)
                self.assertEqual(understood(text), way)
                self.assertEqual(written(read_way(text)), text)

    def test_a_text_is_read_to_tuples_of_numbers(self):
        def kinds(told):
            return [kinds(part) for part in told] if isinstance(told, (tuple, list)) else type(told)

        for way, text in EXAMPLES:
            with self.subTest(text=text):
                self.assertEqual(kinds(read_way(text)), kinds(way))
                self.assertNotIn("list", repr([type(part) for part in read_way(text)]))
                self.assertEqual(hash(read_way(text)), hash(way))

    def test_no_way_is_not_written(self):
        for texts in BAD_WAYS.values():
            for text in texts:
                if len(text) < 900:
                    with self.subTest(text=text):
                        with self.assertRaises(BadWay):
                            written(understood(text))


class Texts(unittest.TestCase):

    def assert_read(self, text):
        """Read, or refused, as the grammar has it."""
        with self.subTest(text=text):
            if GRAMMAR.fullmatch(text) is None:
                with self.assertRaises(BadText):
                    read_way(text)
                return
            way = understood(text)
            try:
                need_way(way)
            except BadWay as bad:
                with self.assertRaises(BadWay) as refusal:
                    read_way(text)
                self.assertEqual(refusal.exception.why, bad.why)
            else:
                self.assertEqual(read_way(text), way)

    def test_not_so_written(self):
        for text in BAD_TEXTS:
            with self.subTest(text=text):
                self.assertIsNone(GRAMMAR.fullmatch(text))
                with self.assertRaises(BadText):
                    read_way(text)

    def test_so_written_of_what_is_no_way(self):
        for why, texts in BAD_WAYS.items():
            for text in texts:
                with self.subTest(why=why, text=text[:200]):
                    self.assertIsNotNone(GRAMMAR.fullmatch(text))
                    with self.assertRaises(BadWay) as refusal:
                        read_way(text)
                    self.assertEqual(refusal.exception.why, why)

    def test_each_sign_left_out_put_in_or_exchanged(self):
        letters = " 0179.:-x~!"
        for _, text in EXAMPLES:
            for at in range(len(text) + 1):
                self.assert_read(text[:at] + text[at + 1:])
                for letter in letters:
                    self.assert_read(text[:at] + letter + text[at:])
                    self.assert_read(text[:at] + letter + text[at + 1:])

    def test_each_word_left_out_told_twice_or_put_otherwise(self):
        others = ("", "0", "00", "01", "1000", "-1", "x", "codes", "turned", "0.1.2", "1:2", "1.", ":1", "1:2:3", "999")
        for way in [way for way, _ in EXAMPLES] + some_ways(63)[::9]:
            words = written(way).split(" ")
            for at in range(len(words)):
                self.assert_read(" ".join(words[:at] + words[at + 1:]))
                self.assert_read(" ".join(words[:at] + words[at:at + 1] + words[at:]))
                self.assert_read(" ".join(words[:at + 1]))
                for other in others:
                    self.assert_read(" ".join(words[:at] + [other] + words[at + 1:]))
                    self.assert_read(" ".join(words[:at] + [other] + words[at:]))

    def test_blanks(self):
        for way in some_ways(64)[::5]:
            text = written(way)
            for other in (" " + text, text + " ", text.replace(" ", "  "), text.replace(" ", ""),
                          text.replace(" ", "  ", 1), text + "  ", text + " " + text):
                self.assert_read(other)
                with self.assertRaises(BadText):
                    read_way(other)

    def test_words_of_other_signs(self):
        signs = [chr(number) for number in range(32, 127) if chr(number) != "%"]
        dice = Dice(65)
        for _ in range(300):
            self.assert_read("".join(dice.signs(signs, dice.below(12))))
        for sign in signs:
            self.assert_read("ranks 3 " + sign)
            self.assert_read("turned 0.1." + sign + " ranks 3 0")

    def test_bad_text_ahead_of_bad_way(self):
        for text in ("ranks 999 0 ", "counts 0 0 x", "turned 0.1.2 " * 5 + "ranks 3", "codes 2 0 1..1",
                     "turned 0.0 ranks 3 00"):
            with self.subTest(text=text):
                with self.assertRaises(BadText):
                    read_way(text)

    def test_tops_of_all_sizes(self):
        for top in range(0, 1000, 7):
            self.assert_read(f"ranks {top} 0")
        self.assertEqual(top_of(read_way("ranks 16 15")), 16)


if __name__ == "__main__":
    unittest.main()
