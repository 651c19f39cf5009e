import unittest

from helper import answer_behind, answered, isolate, joint_of, lines, network, pipe_of, reach, read
from pipewater.cuts import count_ways


def row_of(valves, last="source"):
    """A row of pipes with a valve between each two: pipe k leads to the valve at joint k + 1."""
    rows = ["from a 0 0 0"]
    for k in range(valves):
        rows += ["go e 1", f"valve v{k}"]
    return lines(*rows, "go e 1", "end " + last)


def isolated(areas, sources, valves, area):
    """The valves, by their place in valves, that are told for an area of a network."""
    got = answer_behind(network(areas, sources, valves), isolate(pipe_of(area, valves)))
    if got[0] != 0:
        return got
    return [joint - joint_of(0, areas, valves) for joint in got[1:]]


class Fewest(unittest.TestCase):
    def test_one_in_a_row_and_of_several_the_first(self):
        text = row_of(3)
        self.assertEqual(answer_behind(text, isolate(0)), [0, 1])
        self.assertEqual(answer_behind(text, isolate(1)), [0, 2])
        self.assertEqual(answer_behind(text, isolate(2)), [0, 3])

    def test_the_first_is_by_number_not_by_nearness(self):
        # The source lies at the near end: valve 1 keeps water from all of the row.
        text = row_of(3, "open") + lines("at a", "go w 1", "end source")
        for pipe in (1, 2, 3):
            self.assertEqual(answer_behind(text, isolate(pipe)), [0, 1])

    def test_from_two_sides(self):
        text = row_of(4) + lines("at a", "go w 1", "end source")
        self.assertEqual(answer_behind(text, isolate(1)), [0, 1, 2])
        self.assertEqual(answer_behind(text, isolate(2)), [0, 1, 3])
        self.assertEqual(answer_behind(text, isolate(3)), [0, 1, 4])

    def test_fewer_far_off_than_near(self):
        # Behind one valve the water parts into two ways: the one does it, though both of the two would.
        text = lines("from a 0 0 0", "go w 5", "valve z", "go w 5", "end source",
                     "at a", "go n 1", "valve x", "go n 1", "go e 9", "node b", "go e 3", "end open",
                     "at a", "go e 9", "go n 1", "valve y", "go n 1", "to b")
        self.assertEqual(answer_behind(text, isolate(5)), [0, 1])
        self.assertEqual(answer_behind(text, reach(1)), [0, 1])

    def test_ways_side_by_side(self):
        for ways in range(1, 13):
            self.assertEqual(isolated(2, [0], [(0, 1)] * ways, 1), list(range(ways)))

    def test_ways_side_by_side_with_several_valves_each(self):
        # 0 to 3 by 1, by 2, and straight: the first of each way's valves, whichever end of it that is.
        self.assertEqual(isolated(4, [0], [(0, 1), (1, 3), (2, 3), (0, 2), (0, 3)], 3), [0, 2, 4])
        self.assertEqual(isolated(4, [0], [(1, 3), (0, 2), (0, 3), (2, 3), (1, 0)], 3), [0, 1, 2])

    def test_several_sources_are_shut_off_at_once(self):
        self.assertEqual(isolated(4, [0, 1, 3], [(0, 2), (1, 2), (3, 2)], 2), [0, 1, 2])
        self.assertEqual(isolated(5, [0, 1], [(0, 2), (1, 2), (2, 3), (3, 4)], 4), [2])

    def test_two_ways_though_the_shortest_bars_both(self):
        # The shortest way, 0 1 2 7, goes across; the two that go together are 0 1 5 6 7 and 0 3 4 2 7.
        valves = [(0, 1), (1, 2), (2, 7), (0, 3), (3, 4), (4, 2), (1, 5), (5, 6), (6, 7)]
        self.assertEqual(isolated(8, [0], valves, 7), [0, 3])
        self.assertEqual(isolated(8, [0], list(reversed(valves)), 7), [0, 6])

    def test_the_first_row_is_not_that_of_the_nearest_cut(self):
        # Both cuts have two valves; the row with the lesser first number has the greater second.
        self.assertEqual(isolated(3, [0], [(1, 2), (0, 1), (0, 1), (1, 2)], 2), [0, 3])
        self.assertEqual(isolated(3, [0], [(0, 1), (1, 2), (1, 2), (0, 1)], 2), [0, 3])

    def test_a_least_number_that_is_in_no_least_row_is_passed_over(self):
        self.assertEqual(isolated(3, [0], [(0, 1), (0, 1), (1, 2)], 2), [2])
        self.assertEqual(isolated(4, [0], [(1, 2), (1, 2), (0, 1), (2, 3)], 3), [2])

    def test_a_valve_within_one_area_is_of_no_use(self):
        text = lines("from a 0 0 0", "go n 2", "valve x", "go n 2", "node b", "go n 1", "valve y", "go n 1", "end open",
                     "at a", "go w 5", "go n 4", "go e 5", "to b", "at a", "go s 3", "end source")
        self.assertEqual(answer_behind(text, isolate(3)), [0, 3])
        self.assertEqual(answer_behind(text, isolate(0)), [-3])
        self.assertEqual(answer_behind(text, isolate(1)), [-3])

    def test_none_where_the_pipe_is_not_come_to(self):
        self.assertEqual(answer_behind(row_of(3, "open"), isolate(1)), [0])
        self.assertEqual(answer_behind(row_of(0, "open"), isolate(0)), [0])
        text = row_of(2) + lines("from b 0 0 0", "go e 1", "end drain")
        self.assertEqual(answer_behind(text, isolate(3)), [0])

    def test_twelve_valves(self):
        self.assertEqual(answer_behind(row_of(12), isolate(0)), [0, 1])
        self.assertEqual(answer_behind(row_of(12), isolate(11)), [0, 12])


class Ways(unittest.TestCase):
    def test_a_valve_gone_through_forth_back_and_forth_again(self):
        # More valves than isolate takes: with fewer, no way is laid, taken back and laid again.
        sides = [(5, 0), (5, 3), (6, 2), (3, 0), (9, 7), (3, 9), (7, 9), (0, 8), (6, 9), (6, 4), (1, 3), (5, 6), (0, 4),
                 (7, 5), (7, 1), (8, 6)]
        self.assertEqual(count_ways(list(range(16)), dict(enumerate(sides)), 9), 4)


class Refused(unittest.TestCase):
    def test_no_such_pipe(self):
        for pipe in (4, 5, 1024, 4294967295):
            self.assertEqual(answer_behind(row_of(3), isolate(pipe)), [-4])
        self.assertEqual(answered(isolate(0)), [[-4]])

    def test_more_than_12_valves(self):
        for pipe in (0, 5):
            self.assertEqual(answer_behind(row_of(13), isolate(pipe)), [-2])
        self.assertEqual(answer_behind(row_of(13, "open"), isolate(0)), [-2])

    def test_come_to_whatever_is_shut(self):
        self.assertEqual(answer_behind(row_of(3), isolate(3)), [-3])
        self.assertEqual(answer_behind(row_of(0), isolate(0)), [-3])
        text = lines("from a 0 0 0", "go e 1", "node b", "go e 1", "valve v", "go e 1", "end cap",
                     "at b", "go n 1", "end source")
        for pipe in (0, 1, 3):
            self.assertEqual(answer_behind(text, isolate(pipe)), [-3])
        self.assertEqual(answer_behind(text, isolate(2)), [0, 2])

    def test_the_first_of_several(self):
        # No such pipe and 13 valves; 13 valves and a pipe at the source.
        self.assertEqual(answer_behind(row_of(13), isolate(14)), [-4])
        self.assertEqual(answer_behind(row_of(13), isolate(13)), [-2])

    def test_nothing_has_changed(self):
        got = answered(read(row_of(1)), isolate(2), isolate(1), isolate(0), reach())
        self.assertEqual(got[1:], [[-4], [-3], [0, 1], [0, 0, 1]])


if __name__ == "__main__":
    unittest.main()
