"""level, wet and left on systems as large as they may be: what is long is gone through by loops."""

import unittest

from helper import answered, left, level, lines, read, wet

UNIT = 2000
SQUARE = 50 * 50


def ring(wide, high):
    """A ring of pipes in an upright plane; two more lead off from its corner a, west to a drain."""
    rows = ["from a 0 0 0"] + ["go e 1"] * wide + ["go u 1"] * high + ["go w 1"] * wide + ["go d 1"] * high + ["to a"]
    return lines(*rows, "at a", "go w 1", "go w 1", "end drain")


def grid(wide, high, lane):
    """Rows of pipes one above another, joined at each joint; a drain behind the end of one of them."""
    rows = []
    for j in range(high):
        rows.append(f"from k0x{j} 0 0 {j}")
        for i in range(1, wide):
            rows += ["go e 1", f"node k{i}x{j}"]
        rows += ["go e 1", "end drain" if j == lane else "end cap"]
    for j in range(high - 1):
        for i in range(wide):
            rows += [f"at k{i}x{j}", "go u 1", f"to k{i}x{j + 1}"]
    return lines(*rows)


def comb(teeth):
    """A row of pipes with a valve behind each, to a drain, and a joint higher with each pipe."""
    rows = ["from a 0 0 0"]
    for k in range(teeth):
        rows += ["go eu 1", f"valve v{k}"]
    return lines(*rows, "go eu 1", "end drain")


class Row(unittest.TestCase):
    TEXT = lines("from a 0 0 0", *["go eu 1", "go ed 1"] * 511, "go eu 1", "end open")

    def test_up_and_down(self):
        got = answered(read(self.TEXT), level(0), level(1023), level(511), wet(0), wet(1022), wet(511), left())
        self.assertEqual(got, [[0, 1024, 1023, 0, 1]] + [[0, 0, 1000]] * 3 + [[0, UNIT, 0]] * 3
                         + [[0, 1023 * UNIT * SQUARE, 0]])

    def test_no_outlet(self):
        text = self.TEXT.replace("end open", "end cap")
        got = answered(read(text), level(0), level(1023), wet(0), left())
        self.assertEqual(got[1:], [[-3], [-3], [0, UNIT, 0], [0, 1023 * UNIT * SQUARE, 0]])

    def test_each_joint_of_its_own_height(self):
        text = lines("from a 0 0 0", *["go eu 1"] * 1023, "end drain")
        got = answered(read(text), level(0), level(1022), wet(0), left())
        self.assertEqual(got[1:], [[0, 0, 1023000], [0, 0, 1023000], [0, UNIT, 0], [0, 1023 * UNIT * SQUARE, 0]])
        text = lines("from a 0 0 0", *["go ed 1"] * 1023, "end drain")
        got = answered(read(text), level(0), level(1022), level(1023), wet(0), left())
        self.assertEqual(got[1:], [[0, 0, 0], [0, 0, -1022000], [0, 0, -1023000], [0, 0, 0], [0, 0, 0]])

    def test_as_many_valves_as_there_may_be(self):
        valves = range(1, 1023)
        got = answered(read(comb(1022)), left(), left(*valves), level(0, *valves), level(1023, *valves), level(1, 1022),
                       wet(0, *valves), wet(1022, *valves), left(*range(1, 1024)))
        self.assertEqual(got, [[0, 1024, 1023, 1022, 1]] + [[0, 1023 * UNIT * SQUARE, 0]] * 2
                         + [[-3], [0, 0, 1023000], [-3], [0, UNIT, 0], [0, UNIT, 0], [-1]])


class Ring(unittest.TestCase):
    def test_1024_joints_and_pipes(self):
        text = ring(11, 500)
        got = answered(read(text), level(0), level(511), level(1023), wet(0), wet(1023), left())
        self.assertEqual(got, [[0, 1024, 1024, 0, 1], [0, 0, 0], [0, UNIT * 500, 0], [0, 0, 0]] + [[0, 0, 0]] * 3)

    def test_the_ring_hangs_from_where_it_runs_off(self):
        text = ring(11, 500).replace("go u", "go x").replace("go d", "go u").replace("go x", "go d")
        got = answered(read(text), level(0), level(511), level(1023), wet(0), wet(100), wet(1023), left())
        self.assertEqual(got, [[0, 1024, 1024, 0, 1], [0, 0, 0], [0, 0, 0], [0, 0, 0], [0, 0, 0], [0, UNIT, 0],
                               [0, 0, 0], [0, (500 + 11 + 500) * UNIT * SQUARE, 0]])


class Loops(unittest.TestCase):
    WIDE, HIGH, LANE = 18, 19, 13
    # Beside the grid a row of 53 pipes at its foot, and 305 pipes by themselves: 1024 joints and pipes in all.
    TEXT = (grid(WIDE, HIGH, LANE) + lines("at k0x0", *["go w 1"] * 53, "end cap")
            + "".join([lines(f"from s{k} 0 0 0", "go e 1", "end cap") for k in range(305)]))
    ALL_WET = (2 * WIDE * LANE + 53 + 305) * UNIT * SQUARE

    def test_1024_joints_and_pipes(self):
        self.assertLess(len(self.TEXT), 29900)
        # The joints of row j are numbered from j (WIDE + 1) on, with the end of the row.
        asked = [(i, j) for i in (0, 9, 17) for j in (0, 12, 13, 14, 18)]
        got = answered(read(self.TEXT), left(), *[level(j * (self.WIDE + 1) + i) for i, j in asked])
        self.assertEqual(got[:2], [[0, 1024, 1024, 0, 19 + 1 + 305], [0, self.ALL_WET, 0]])
        self.assertEqual(got[2:], [[0, UNIT * max(j, self.LANE), 0] for i, j in asked])

    def test_wet_of_each_pipe_of_the_grid(self):
        lying = [[0, UNIT, 0] if j < self.LANE else [0, 0, 0] for j in range(self.HIGH) for i in range(self.WIDE)]
        standing = [[0, UNIT, 0] if j < self.LANE else [0, 0, 0] for j in range(self.HIGH - 1) for i in range(self.WIDE)]
        calls = [wet(pipe) for pipe in range(len(lying) + len(standing))]
        got = answered(read(self.TEXT), *calls[:299])[1:]
        for k in (299, 598):
            got += answered(read(self.TEXT), *calls[k:k + 299])[1:]
        self.assertEqual(got, lying + standing)

    def test_as_many_calls_as_there_may_be(self):
        for call, want in ((left(), [0, self.ALL_WET, 0]), (level(0), [0, UNIT * 13, 0]), (wet(7), [0, UNIT, 0])):
            self.assertEqual(answered(read(self.TEXT), *[call] * 299)[1:], [want] * 299)


if __name__ == "__main__":
    unittest.main()
