import unittest

from helper import answer_behind, answered, left, level, lines, read, wet
from pipewater.directions import STEPS
from pipewater.reader import read_text
from pipewater.wetness import length_below

# Joints 0 to 7 in a row, over a hump of 15; valves at the joints 1, below it, and 4, on the way up.
VALVES = lines("from a 0 0 0", "go e 10", "valve v", "go e 5", "go u 5", "go u 5", "valve w", "go u 5", "go e 10",
               "go d 30", "end drain")


def beside(pipe, *rise, ending="cap"):
    """Pipe 0, from b on and with no way off at its far end; from b the way off goes over a rise."""
    return lines("from b 0 0 0", pipe, "end " + ending, "at b", "go e 5", *rise, "go e 5", "go d 100", "end drain")


def turned(pipe, *rise):
    """The same, but pipe 0 begins at its far end."""
    return lines("from f 0 0 0", pipe, "node b", "go e 5", *rise, "go e 5", "go d 100", "end drain")


def wets(text, *shut):
    """The lengths of all pipes."""
    told = answered(read(text))[0]
    if told[0] != 0:
        raise AssertionError(told)
    return [tuple(got[1:]) for got in answered(read(text), *[wet(pipe, *shut) for pipe in range(told[2])])[1:]]


def mm(*lengths):
    return [(2000 * length, 0) for length in lengths]


class Upright(unittest.TestCase):
    def assert_both_ways(self, up, down, rise, want):
        self.assertEqual(wets(beside(up, *rise))[0], want)
        self.assertEqual(wets(turned(down, *rise))[0], want)

    def test_its_level_is_at_its_lower_end(self):
        self.assert_both_ways("go u 30", "go d 30", [], (0, 0))

    def test_at_its_upper_end(self):
        self.assert_both_ways("go u 30", "go d 30", ["go u 30"], (60000, 0))
        self.assert_both_ways("go d 30", "go u 30", [], (60000, 0))

    def test_between(self):
        self.assert_both_ways("go u 30", "go d 30", ["go u 10"], (20000, 0))
        self.assert_both_ways("go u 30", "go d 30", ["go u 29"], (58000, 0))
        self.assert_both_ways("go u 30", "go d 30", ["go u 1"], (2000, 0))
        self.assert_both_ways("go u 30", "go d 30", ["go eu 10"], (0, 10000))
        self.assert_both_ways("go u 30", "go d 30", ["go u 3", "go e 1", "go eu 10"], (6000, 10000))

    def test_above(self):
        self.assert_both_ways("go u 30", "go d 30", ["go u 40"], (60000, 0))
        self.assert_both_ways("go d 30", "go u 30", ["go u 40"], (60000, 0))

    def test_none(self):
        self.assertEqual(wets(lines("from a 0 0 0", "go u 30", "end cap")), mm(30))
        self.assertEqual(wets(lines("from a 0 0 0", "go d 30", "end source")), mm(30))

    def test_between_by_a_hair(self):
        # 17, 58 and 99 at 45 degrees are a little above 12, 41 and 70 upright; 41 are a little below 29.
        self.assert_both_ways("go u 41", "go d 41", ["go eu 57"], (0, 57000))
        self.assert_both_ways("go u 41", "go d 41", ["go eu 58"], (82000, 0))
        self.assert_both_ways("go u 70", "go d 70", ["go eu 98"], (0, 98000))
        self.assert_both_ways("go u 70", "go d 70", ["go eu 99"], (140000, 0))
        self.assert_both_ways("go u 12", "go d 12", ["go eu 17"], (24000, 0))
        self.assert_both_ways("go u 29", "go d 29", ["go eu 41"], (0, 41000))


class At45Degrees(unittest.TestCase):
    def assert_each(self, rise, want):
        for up, down in (("wu", "ed"), ("nu", "sd"), ("su", "nd")):
            self.assertEqual(wets(beside(f"go {up} 30", *rise))[0], want)
            self.assertEqual(wets(turned(f"go {down} 30", *rise))[0], want)

    def test_its_level_is_at_its_lower_end(self):
        self.assert_each([], (0, 0))

    def test_at_its_upper_end(self):
        self.assert_each(["go eu 30"], (60000, 0))
        self.assertEqual(wets(beside("go wd 30"))[0], (60000, 0))
        self.assertEqual(wets(turned("go eu 30"))[0], (60000, 0))

    def test_between(self):
        self.assert_each(["go eu 10"], (20000, 0))
        self.assert_each(["go u 10"], (0, 20000))
        self.assert_each(["go u 3", "go e 1", "go eu 10"], (20000, 6000))
        # Up and down again: what counts is the greatest height of a joint.
        self.assert_each(["go u 3", "go e 1", "go ed 2"], (0, 6000))

    def test_above(self):
        self.assert_each(["go eu 31"], (60000, 0))
        self.assert_each(["go u 22"], (60000, 0))
        self.assert_each(["go u 21"], (0, 42000))

    def test_none(self):
        for word in ("eu", "ed", "wu", "wd", "nu", "nd", "su", "sd"):
            self.assertEqual(wets(lines("from a 0 0 0", f"go {word} 30", "end cap")), mm(30))


class LevelPipes(unittest.TestCase):
    WORDS = ("n", "s", "w", "nw", "sw")

    def test_at_its_own_level(self):
        for word in self.WORDS:
            self.assertEqual(wets(beside(f"go {word} 30"))[0], (0, 0))

    def test_lower_than_its_level(self):
        for word in self.WORDS:
            self.assertEqual(wets(beside(f"go {word} 30", "go u 1"))[0], (60000, 0))
            self.assertEqual(wets(beside(f"go {word} 30", "go eu 1"))[0], (60000, 0))

    def test_an_outlet_at_its_end(self):
        for word in self.WORDS:
            self.assertEqual(wets(beside(f"go {word} 30", "go u 1", ending="drain"))[0], (0, 0))

    def test_none(self):
        for word in ("e", "ne", "se") + self.WORDS:
            self.assertEqual(wets(lines("from a 0 0 0", f"go {word} 30", "end cap")), mm(30))


class Below(unittest.TestCase):
    """A level that is lower than all of a pipe is no joint's; the length lower than it is none."""

    def test_every_direction(self):
        for word in STEPS:
            system = read_text(list(lines("from a 0 0 0", f"go {word} 30", "end cap").encode()))
            pipe = system.pipes[0]
            ends = [system.joints[joint].height() for joint in (pipe.begin, pipe.finish)]
            for low in [(-100000, 0), (0, -100000)] + [ends[1 if "d" in word else 0]]:
                self.assertEqual(length_below(system, pipe, low), (0, 0), word)
            for high in [(100000, 0), (0, 100000), None]:
                self.assertEqual(length_below(system, pipe, high), (60000, 0), word)


class Wet(unittest.TestCase):
    def test_every_pipe_of_a_row(self):
        self.assertEqual(wets(VALVES), mm(10, 5, 5, 5, 5, 0, 0))

    def test_behind_shut_valves(self):
        self.assertEqual(wets(VALVES, 1), mm(10, 5, 5, 5, 5, 0, 0))
        self.assertEqual(wets(VALVES, 4), mm(10, 5, 5, 5, 5, 0, 0))
        self.assertEqual(wets(VALVES, 1, 4), mm(10, 5, 5, 5, 5, 0, 0))

    def test_what_a_shut_valve_holds_back(self):
        text = lines("from a 0 0 0", "go d 10", "valve v", "go d 10", "go e 4", "valve w", "go e 5", "end drain")
        self.assertEqual(wets(text), mm(0, 0, 0, 0))
        # The shut valve at the lower end of pipe 0: no level at either end of it. Pipe 1 runs off below it.
        self.assertEqual(wets(text, 1), mm(10, 0, 0, 0))
        self.assertEqual(wets(text, 3), mm(10, 10, 4, 0))
        self.assertEqual(wets(text, 1, 3), mm(10, 10, 4, 0))

    def test_one_end_has_a_shut_valve(self):
        # Pipe 1 stands on the shut valve at joint 2; its upper end runs off at its own height.
        text = lines("from a 0 0 0", "go e 5", "go d 10", "valve v", "go d 10", "end drain",
                     "at a", "go w 5", "end open")
        self.assertEqual(wets(text), mm(0, 0, 0, 0))
        self.assertEqual(wets(text, 2), mm(0, 10, 0, 0))
        # Pipe 1 hangs on the shut valve at joint 2 and runs off below.
        text = lines("from a 0 0 0", "go e 5", "go u 10", "valve v", "go u 10", "end cap",
                     "at a", "go w 5", "end open")
        self.assertEqual(wets(text, 2), mm(0, 0, 10, 0))

    def test_the_lesser_of_two_levels(self):
        # Of pipe 0 the lower end's level counts; if the valve that stands there is shut, the upper end's.
        text = lines("from a 0 0 0", "go d 5", "valve v", "go d 5", "go e 5", "go u 3", "end open", "at a", "go e 5",
                     "end open")
        self.assertEqual(wets(text), mm(0, 3, 5, 3, 0))
        self.assertEqual(wets(text, 1), mm(5, 3, 5, 3, 0))

    def test_a_system_without_outlets_is_all_wet(self):
        text = lines("from a 0 0 0", "go u 5", "go nu 6", "valve v", "go nu 1", "go n 7", "end source", "at a", "go ed 9",
                     "end cap")
        self.assertEqual(wets(text), mm(5, 6, 1, 7, 9))
        self.assertEqual(wets(text, 2), mm(5, 6, 1, 7, 9))


class Left(unittest.TestCase):
    def test_nothing(self):
        self.assertEqual(answered(left()), [[0, 0, 0]])
        self.assertEqual(answer_behind("", left()), [0, 0, 0])
        self.assertEqual(answer_behind(lines("size 7"), left()), [0, 0, 0])

    def test_all_is_dry(self):
        self.assertEqual(answer_behind(lines("from a 0 0 0", "go d 10", "end drain"), left()), [0, 0, 0])

    def test_the_radius_at_first_is_50(self):
        self.assertEqual(answer_behind(lines("from a 0 0 0", "go u 10", "end open"), left()), [0, 20000 * 2500, 0])

    def test_radii(self):
        for radius in (1, 2, 50, 1999, 2000):
            text = lines(f"size {radius}", "from a 0 0 0", "go u 10", "end open")
            self.assertEqual(answer_behind(text, left()), [0, 20000 * radius * radius, 0])

    def test_each_pipe_by_its_own_radius(self):
        text = lines("size 3", "from a 0 0 0", "go e 10", "size 7", "go e 100", "size 2", "go e 1000", "end cap")
        self.assertEqual(answer_behind(text, left()), [0, 2000 * (10 * 9 + 100 * 49 + 1000 * 4), 0])

    def test_p_and_q(self):
        # Lower than 10: r times 10 of one at 45 degrees; 10 of an upright one; all of a level one and of the rise.
        text = lines("size 3", "from b 0 0 0", "go nu 30", "end cap", "at b", "go e 5", "go u 10", "node c", "go e 5",
                     "go d 100", "end drain", "at b", "size 4", "go s 2", "go u 30", "end cap")
        self.assertEqual(wets(text), [(0, 20000), (10000, 0), (20000, 0), (0, 0), (0, 0), (4000, 0), (20000, 0)])
        self.assertEqual(answer_behind(text, left()), [0, 30000 * 9 + 24000 * 16, 20000 * 9])

    def test_p_and_q_may_have_opposite_signs(self):
        # From c, at 20000 - 24000 r, two pipes lead up through 0, where the way off is.
        text = lines("size 3", "from a 0 0 0", "go e 5", "go ed 24", "go e 5", "go u 10", "node c", "go u 40", "end cap",
                     "at c", "go n 5", "go nu 60", "end cap", "at a", "go w 5", "end drain")
        self.assertEqual(wets(text), mm(0, 24, 5, 10) + [(-20000, 24000), (10000, 0), (48000, -20000), (0, 0)])
        self.assertEqual(answer_behind(text, left()), [0, 9 * (78000 - 20000 + 10000 + 48000), 9 * (24000 - 20000)])

    def test_with_valves_shut(self):
        text = lines("size 2", "from a 0 0 0", "go d 10", "valve v", "go d 10", "go e 4", "valve w", "go e 5", "end drain")
        self.assertEqual(answered(read(text), left(), left(1), left(3), left(1, 3))[1:],
                         [[0, 0, 0], [0, 80000, 0], [0, 24 * 8000, 0], [0, 24 * 8000, 0]])

    def test_large_numbers(self):
        text = lines("size 2000", "from a 0 0 0") + "go e 100000\n" * 1023 + lines("end cap")
        self.assertEqual(answer_behind(text, left()), [0, 1023 * 200000000 * 4000000, 0])


class Refused(unittest.TestCase):
    def test_1_not_rising_or_no_valve(self):
        for shut in ((4, 1), (1, 1), (0,), (2,), (1, 2), (1, 7), (8,), (1, 4, 4294967295)):
            self.assertEqual(answer_behind(VALVES, wet(5, *shut)), [-1], shut)
            self.assertEqual(answer_behind(VALVES, left(*shut)), [-1], shut)
        self.assertEqual(answered(left(0)), [[-1]])

    def test_4_no_such_pipe(self):
        for pipe in (7, 8, 1024, 4294967295):
            self.assertEqual(answer_behind(VALVES, wet(pipe)), [-4])
            self.assertEqual(answer_behind(VALVES, wet(pipe, 1, 4)), [-4])
        self.assertEqual(answered(wet(0)), [[-4]])

    def test_the_first_of_two(self):
        self.assertEqual(answer_behind(VALVES, wet(7, 4, 1)), [-1])
        self.assertEqual(answer_behind(VALVES, wet(7, 0)), [-1])
        self.assertEqual(answered(wet(0, 0)), [[-1]])

    def test_nothing_has_changed(self):
        asked = [wet(0), wet(2, 1), left(), left(1, 4), level(0)]
        before = answered(read(VALVES), *asked)
        refused = [wet(7), wet(0, 0), wet(0, 4, 1), left(4, 1), left(0)]
        got = answered(read(VALVES), *refused, *asked)
        self.assertEqual(got[1:6], [[-4], [-1], [-1], [-1], [-1]])
        self.assertEqual(got[6:], before[1:])


if __name__ == "__main__":
    unittest.main()
