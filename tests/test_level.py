import unittest

from helper import answer_behind, answered, isolate, left, level, lines, off, reach, read, wet

# Joints 0 to 4: water at the first two must go up by 10 before it goes off.
HUMP = lines("from a 0 0 0", "go e 10", "go u 10", "go e 10", "go d 30", "end drain")

# Joints 0 to 7 in a row, over a hump of 15; valves at the joints 1, below it, and 4, on the way up.
VALVES = lines("from a 0 0 0", "go e 10", "valve v", "go e 5", "go u 5", "go u 5", "valve w", "go u 5", "go e 10",
               "go d 30", "end drain")

# From joint 0 ways lead off over 30, over 20 and over 41; they have valves at the joints 2, 7 and 11.
THREE_WAYS = lines("from b 0 0 0", "go u 30", "go n 5", "valve v", "go n 5", "go d 50", "end drain",
                   "at b", "go e 5", "go u 20", "go e 5", "valve w", "go e 5", "go d 50", "end open",
                   "at b", "go w 5", "go u 40", "valve x", "go u 1", "end drain")


def levels(text, *shut):
    """The answers to level of each joint."""
    told = answered(read(text))[0]
    if told[0] != 0:
        raise AssertionError(told)
    return answered(read(text), *[level(joint, *shut) for joint in range(told[1])])[1:]


def mm(*heights):
    """Answers of whole millimetres; None is refused."""
    return [[-3] if height is None else [0, 2000 * height, 0] for height in heights]


def near_root():
    """Pairs m, n with m / n ever nearer to the root of 2, in turn below and above it."""
    pairs, m, n = [], 1, 1
    # More millimetres don't go into one text.
    while m + n <= 1000 * 100000:
        pairs.append((m, n))
        m, n = m + 2 * n, m + n
    return pairs


def go(word, millimetres):
    """Lines that go so far by pipes that are as long as they may be."""
    rows = [f"go {word} 100000"] * (millimetres // 100000)
    return rows + [f"go {word} {millimetres % 100000}"] * (millimetres % 100000 > 0)


class Level(unittest.TestCase):
    def test_the_greatest_height_on_the_way(self):
        self.assertEqual(levels(HUMP), mm(10, 10, 10, 10, -20))

    def test_an_outlet_has_its_own_height(self):
        for kind in ("drain", "open"):
            text = lines("from a 0 0 7", "go u 5", "end " + kind, "at a", "go d 9", "end " + kind)
            self.assertEqual(levels(text), mm(7, 12, -2))

    def test_cap_and_source_are_no_outlets(self):
        for kind in ("cap", "source"):
            text = lines("from a 0 0 0", "go d 5", "end " + kind, "at a", "go u 5", "end open")
            self.assertEqual(levels(text), mm(5, 5, 5))
            text = lines("from a 0 0 0", "go d 5", "end " + kind, "at a", "go u 5", "end " + kind)
            self.assertEqual(levels(text), mm(None, None, None))

    def test_a_joint_without_an_end_or_a_second_pipe_is_no_outlet(self):
        self.assertEqual(levels(lines("from a 0 0 0", "go u 5", "end drain")), mm(5, 5))
        self.assertEqual(levels(lines("from a 0 0 0", "go u 5", "end cap")), mm(None, None))

    def test_no_outlet_at_all(self):
        text = lines("from a 0 0 0", "go d 5", "valve v", "go d 5", "end cap")
        self.assertEqual(levels(text), mm(None, None, None))
        self.assertEqual(levels(text, 1), mm(None, None, None))

    def test_no_way_to_an_outlet(self):
        text = lines("from a 0 0 0", "go e 5", "end drain", "from b 0 0 0", "go e 5", "end cap")
        self.assertEqual(levels(text), mm(0, 0, None, None))

    def test_one_place_is_not_one_joint(self):
        text = lines("from a 0 0 0", "go d 5", "end drain", "from b 0 0 -5", "go u 5", "end cap")
        self.assertEqual(levels(text), mm(0, -5, None, None))

    def test_all_joints_of_one_height(self):
        text = lines("from a 0 0 3", "go e 5", "valve v", "go e 5", "go n 5", "end open", "at a", "go w 2", "end cap")
        self.assertEqual(levels(text), mm(3, 3, 3, 3, 3))
        self.assertEqual(levels(text, 1), mm(None, None, 3, 3, None))

    def test_below_0(self):
        text = lines("from a 0 0 -50", "go u 20", "go e 1", "go d 5", "end drain")
        self.assertEqual(levels(text), mm(-30, -30, -30, -35))

    def test_two_humps_and_the_hollow_between(self):
        text = lines("from a 0 0 0", "go u 10", "go e 1", "go d 10", "go e 1", "go u 20", "go e 1", "go d 40", "end open")
        self.assertEqual(levels(text), mm(20, 20, 20, 20, 20, 20, 20, -20))
        text = lines("from a 0 0 0", "go u 20", "go e 1", "go d 20", "go e 1", "go u 10", "go e 1", "go d 40", "end open")
        self.assertEqual(levels(text), mm(20, 20, 20, 10, 10, 10, 10, -30))

    def test_p_and_q(self):
        text = lines("from a 0 0 -3", "go u 4", "go e 1", "go eu 5", "go e 1", "go d 9", "end drain")
        self.assertEqual(levels(text)[0], [0, 2000, 5000])
        self.assertEqual(levels(text)[5], [0, 2000 - 18000, 5000])


class SeveralWays(unittest.TestCase):
    def test_the_least_of_the_greatest(self):
        self.assertEqual(answer_behind(THREE_WAYS, level(0)), [0, 40000, 0])

    def test_the_next_as_valves_are_shut(self):
        for shut, height in (((2,), 20), ((7,), 30), ((11,), 20), ((2, 7), 41), ((2, 11), 20), ((7, 11), 30)):
            self.assertEqual(answer_behind(THREE_WAYS, level(0, *shut)), [0, 2000 * height, 0])
        self.assertEqual(answer_behind(THREE_WAYS, level(0, 2, 7, 11)), [-3])

    def test_down_again_and_over_another_way(self):
        self.assertEqual(answer_behind(THREE_WAYS, level(1, 2)), [0, 60000, 0])
        self.assertEqual(answer_behind(THREE_WAYS, level(6, 2, 7)), [0, 82000, 0])

    def test_of_two_outlets_the_lower(self):
        for one, other in ((5, 9), (9, 5)):
            text = lines("from a 0 0 0", f"go u {one}", "end open", "at a", "go e 1", f"go u {other}", "end drain")
            self.assertEqual(levels(text), mm(5, one, 5, other))

    def test_a_longer_way_that_stays_lower(self):
        text = lines("from a 0 0 0", "go u 5", "go n 5", "go d 5", "node b", "go n 5", "end drain",
                     "at a", "go e 5", "go u 2", "go n 5", "go d 2", "go w 5", "to b")
        self.assertEqual(levels(text), mm(2, 5, 5, 0, 0, 2, 2, 2, 0))

    def test_a_loop_that_stands_at_45_degrees(self):
        text = lines("from a 0 0 0", "go nu 7", "node t", "go nd 7", "node b", "go n 1", "end drain",
                     "at a", "go nd 7", "go nu 7", "to b", "at a", "go s 3", "end cap")
        self.assertEqual(levels(text), [[0, 0, 0], [0, 0, 7000], [0, 0, 0], [0, 0, 0], [0, 0, 0], [0, 0, 0]])


class ShutValves(unittest.TestCase):
    def test_a_valve_that_is_not_shut_stops_nothing(self):
        self.assertEqual(levels(VALVES), mm(15, 15, 15, 15, 15, 15, 15, -15))

    def test_the_joint_has_a_shut_valve(self):
        self.assertEqual(levels(VALVES, 1), mm(None, None, 15, 15, 15, 15, 15, -15))
        self.assertEqual(levels(VALVES, 4), mm(None, None, None, None, None, 15, 15, -15))
        self.assertEqual(levels(VALVES, 1, 4), mm(None, None, None, None, None, 15, 15, -15))

    def test_round_a_shut_valve(self):
        text = lines("from a 0 0 0", "go n 2", "valve x", "go n 2", "node b", "go n 9", "end open",
                     "at a", "go w 2", "go u 3", "go n 3", "valve y", "go n 1", "go d 3", "go e 2", "to b")
        self.assertEqual(answer_behind(text, level(0)), [0, 0, 0])
        self.assertEqual(answer_behind(text, level(0, 1)), [0, 6000, 0])
        self.assertEqual(answer_behind(text, level(0, 6)), [0, 0, 0])
        self.assertEqual(answer_behind(text, level(0, 1, 6)), [-3])
        self.assertEqual(answer_behind(text, level(1, 1)), [-3])


class NearlyTheSame(unittest.TestCase):
    def test_of_two_outlets_the_lower(self):
        for k, (m, n) in enumerate(near_root()):
            text = lines("from a 0 0 0", *go("u", n), "end open", "at a", "go e 1", *go("eu", m), "end open")
            want = [0, 0, 1000 * m] if k % 2 == 0 else [0, 2000 * n, 0]
            self.assertEqual(answer_behind(text, level(0)), want, (m, n))

    def test_of_an_end_and_its_beginning_the_higher(self):
        for k, (m, n) in enumerate(near_root()):
            text = lines("from a 0 0 0", *go("d", n), "go e 1", *go("eu", m), "end drain")
            want = [0, 0, 0] if k % 2 == 0 else [0, -2000 * n, 1000 * m]
            self.assertEqual(answer_behind(text, level(0)), want, (m, n))
            text = lines("from a 0 0 0", *go("ed", m), "go e 1", *go("u", n), "end drain")
            want = [0, 2000 * n, -1000 * m] if k % 2 == 0 else [0, 0, 0]
            self.assertEqual(answer_behind(text, level(0)), want, (m, n))

    def test_they_come_as_near_as_a_text_can_make(self):
        m, n = near_root()[-1]
        self.assertGreater(m + n, 90000000)
        self.assertEqual(abs(m * m - 2 * n * n), 1)


class Refused(unittest.TestCase):
    def test_1_not_rising_or_no_valve(self):
        for shut in ((4, 1), (1, 1), (0,), (2,), (1, 2), (1, 7), (8,), (1, 4, 4294967295)):
            self.assertEqual(answer_behind(VALVES, level(5, *shut)), [-1], shut)

    def test_4_no_such_joint(self):
        for joint in (8, 9, 1024, 4294967295):
            self.assertEqual(answer_behind(VALVES, level(joint)), [-4])
            self.assertEqual(answer_behind(VALVES, level(joint, 1, 4)), [-4])
        self.assertEqual(answered(level(0)), [[-4]])

    def test_3_it_has_none(self):
        self.assertEqual(answer_behind(VALVES, level(0, 1)), [-3])
        self.assertEqual(answer_behind(VALVES, level(1, 1)), [-3])

    def test_the_first_of_several(self):
        self.assertEqual(answer_behind(VALVES, level(8, 4, 1)), [-1])
        self.assertEqual(answer_behind(VALVES, level(8, 0)), [-1])
        self.assertEqual(answer_behind(VALVES, level(0, 1, 3)), [-1])
        self.assertEqual(answer_behind(VALVES, level(1, 1, 1)), [-1])
        self.assertEqual(answer_behind(HUMP.replace("drain", "cap"), level(5)), [-4])
        self.assertEqual(answered(level(0, 0)), [[-1]])

    def test_nothing_has_changed(self):
        asked = [level(0), level(7, 1, 4), wet(0), wet(0, 1), left(), left(4), reach(), off(1), isolate(0)]
        before = answered(read(VALVES), *asked)
        refused = [level(0, 1), level(8), level(0, 4, 1), wet(7), wet(0, 0), left(2), level(1, 1)]
        got = answered(read(VALVES), *refused, *asked)
        self.assertEqual(got[1:8], [[-3], [-4], [-1], [-4], [-1], [-1], [-3]])
        self.assertEqual(got[8:], before[1:])

    def test_what_was_held_stays_behind_a_fault(self):
        got = answered(read(HUMP), read("from a 0 0 99\ngo e 1\n"), level(0), wet(0), level(5))
        self.assertEqual(got[1:], [[-100, 9, 2], [0, 20000, 0], [0, 20000, 0], [-4]])

    def test_another_text_is_held_from_then_on(self):
        got = answered(read(HUMP), level(0), read(VALVES), level(0), level(0, 1), read(""), level(0), left())
        self.assertEqual([got[1]] + got[3:5] + got[6:], mm(10, 15, None) + [[-4], [0, 0, 0]])


if __name__ == "__main__":
    unittest.main()
