import math
import unittest

from pipewater.directions import direction_of, gone, is_direction, opposite, place_at, turn

WORDS = "e w n s u d ne se nw sw eu ed wu wd nu nd su sd".split()
PARTS = {"e": (1, 0, 0), "w": (-1, 0, 0), "n": (0, 1, 0), "s": (0, -1, 0), "u": (0, 0, 1), "d": (0, 0, -1)}


class Directions(unittest.TestCase):
    def test_each_word_says_its_steps(self):
        for word in WORDS:
            steps = tuple(sum(PARTS[sign][axis] for sign in word) for axis in range(3))
            self.assertEqual(direction_of(word), steps)
            self.assertEqual(opposite(steps), tuple(-step for step in steps))

    def test_other_words_are_none(self):
        for word in ("", "en", "ee", "ud", "neu", "E", "x", "un", "0"):
            self.assertFalse(is_direction(word), word)

    def test_the_turn_is_the_angle_in_degrees(self):
        seen = {}
        for one in map(direction_of, WORDS):
            for two in map(direction_of, WORDS):
                product = sum(a * b for a, b in zip(one, two))
                size = math.sqrt(sum(a * a for a in one) * sum(b * b for b in two))
                degrees = round(math.degrees(math.acos(max(-1, min(1, product / size)))))
                self.assertEqual(turn(one, two), degrees, (one, two))
                seen[degrees] = True
        self.assertEqual(sorted(seen), [0, 45, 60, 90, 120, 135, 180])


class Places(unittest.TestCase):
    def test_whole_millimetres_are_2000_units(self):
        self.assertEqual(place_at(1, -2, 0), ((2000, 0), (-4000, 0), (0, 0)))

    def test_going_along_an_axis(self):
        start = ((1, 2), (3, 4), (5, 6))
        self.assertEqual(gone(start, direction_of("e"), 7), ((14001, 2), (3, 4), (5, 6)))
        self.assertEqual(gone(start, direction_of("s"), 7), ((1, 2), (-13997, 4), (5, 6)))
        self.assertEqual(gone(start, direction_of("u"), 1), ((1, 2), (3, 4), (2005, 6)))

    def test_going_aslant(self):
        start = ((1, 2), (3, 4), (5, 6))
        self.assertEqual(gone(start, direction_of("ne"), 7), ((1, 7002), (3, 7004), (5, 6)))
        self.assertEqual(gone(start, direction_of("wd"), 1), ((1, -998), (3, 4), (5, -994)))
        self.assertEqual(gone(start, direction_of("su"), 1), ((1, 2), (3, -996), (5, 1006)))


if __name__ == "__main__":
    unittest.main()
