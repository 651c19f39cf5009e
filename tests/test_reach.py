import unittest

from helper import answer_behind, answered, lines, off, reach, read

# Pipes 0 to 3 in a row, valves at joints 1 and 2, the source at the far end behind pipe 3.
ROW = lines("from a 0 0 0", "go e 1", "valve v", "go e 1", "valve w", "go e 1", "go e 1", "end source")

# A ring of pipes with valves at joints 1 and 4 on its two sides; pipe 2 is at its far side, pipe 7 at the source.
RING = lines("from a 0 0 0", "go n 2", "valve x", "go n 2", "node b", "go e 9", "end open",
             "at a", "go w 2", "valve y", "go w 3", "go n 4", "go e 5", "to b",
             "at a", "go s 3", "end source")


class Reach(unittest.TestCase):
    def test_nothing_is_shut(self):
        self.assertEqual(answer_behind(ROW, reach()), [0, 0, 1, 2, 3])

    def test_a_shut_valve_stops_it(self):
        self.assertEqual(answer_behind(ROW, reach(2)), [0, 2, 3])
        self.assertEqual(answer_behind(ROW, reach(1)), [0, 1, 2, 3])
        self.assertEqual(answer_behind(ROW, reach(1, 2)), [0, 2, 3])

    def test_round_a_shut_valve_by_another_way(self):
        for shut in ((), (1,), (4,)):
            self.assertEqual(answer_behind(RING, reach(*shut)), [0, 0, 1, 2, 3, 4, 5, 6, 7])
        self.assertEqual(answer_behind(RING, reach(1, 4)), [0, 0, 3, 7])

    def test_both_sides_of_a_shut_valve_may_be_come_to(self):
        text = lines("from a 0 0 0", "go e 1", "valve v", "go e 1", "end source", "at a", "go w 1", "end source")
        self.assertEqual(answer_behind(text, reach(1)), [0, 0, 1, 2])

    def test_the_pipe_at_the_source_is_come_to_though_its_other_end_is_shut(self):
        text = lines("from a 0 0 0", "go e 1", "valve v", "go e 1", "end source")
        self.assertEqual(answer_behind(text, reach(1)), [0, 1])

    def test_no_source(self):
        for kind in ("open", "cap", "drain"):
            text = lines("from a 0 0 0", "go e 1", "valve v", "go e 1", "end " + kind)
            self.assertEqual(answered(read(text), reach(), reach(1), off(1)), [[0, 3, 2, 1, 1], [0], [0], [0]])

    def test_no_pipe_of_a_system_without_a_joint_in_common(self):
        text = ROW + lines("from b 0 0 0", "go e 1", "end open")
        self.assertEqual(answer_behind(text, reach()), [0, 0, 1, 2, 3])

    def test_several_sources(self):
        text = ROW + lines("from b 0 0 0", "go e 1", "valve t", "go e 1", "end source")
        self.assertEqual(answer_behind(text, reach(1, 2, 6)), [0, 2, 3, 5])

    def test_other_ends_and_names_stop_nothing(self):
        text = lines("from a 0 0 0", "go e 1", "node b", "go e 1", "end source",
                     "at b", "go n 1", "end drain", "at b", "go s 1", "end cap", "at a", "go w 1", "end open")
        self.assertEqual(answer_behind(text, reach()), [0, 0, 1, 2, 3, 4])

    def test_on_an_object_that_is_new(self):
        self.assertEqual(answered(reach()), [[0]])
        self.assertEqual(answered(reach(0)), [[-1]])

    def test_a_long_row_is_gone_through_by_loops(self):
        text = lines("from a 0 0 0") + "go e 1\n" * 1022 + lines("valve v", "go e 1", "end source")
        self.assertEqual(answer_behind(text.replace("valve v", "node v"), reach()), [0] + list(range(1023)))
        self.assertEqual(answer_behind(text, reach(1022)), [0, 1022])

    def test_as_many_valves_as_there_may_be(self):
        text = lines("from a 0 0 0") + "".join([f"go e 1\nvalve v{k}\n" for k in range(1022)]) + "go e 1\nend source\n"
        self.assertEqual(answer_behind(text, reach(*range(1, 1023))), [0, 1022])
        self.assertEqual(answer_behind(text, reach(*range(1, 1022))), [0, 1021, 1022])
        self.assertEqual(answer_behind(text, reach(*range(1, 1024))), [-1])


class ShutIsRefused(unittest.TestCase):
    def test_not_rising(self):
        self.assertEqual(answer_behind(ROW, reach(2, 1)), [-1])
        self.assertEqual(answer_behind(ROW, reach(1, 1)), [-1])
        self.assertEqual(answer_behind(ROW, reach(1, 2, 1)), [-1])
        self.assertEqual(answer_behind(ROW, reach(1, 2, 2)), [-1])

    def test_no_valve(self):
        for joint in (0, 3, 4, 5, 1000, 4294967295):
            self.assertEqual(answer_behind(ROW, reach(joint)), [-1])
        self.assertEqual(answer_behind(ROW, reach(0, 1, 2)), [-1])
        self.assertEqual(answer_behind(ROW, reach(1, 2, 3)), [-1])
        self.assertEqual(answer_behind(ROW, reach(1, 2, 4294967295)), [-1])


class Off(unittest.TestCase):
    def test_what_a_valve_alone_shuts_off(self):
        self.assertEqual(answer_behind(ROW, off(1)), [0, 0])
        self.assertEqual(answer_behind(ROW, off(2)), [0, 0, 1])

    def test_nothing_where_another_way_is_left(self):
        for joint in (1, 4):
            self.assertEqual(answer_behind(RING, off(joint)), [0])

    def test_nothing_where_nothing_came(self):
        text = ROW + lines("from b 0 0 0", "go e 1", "valve t", "go e 1", "end open")
        self.assertEqual(answer_behind(text, off(6)), [0])

    def test_pipes_that_never_are_come_to_are_not_among_them(self):
        text = lines("from b 0 0 0", "go e 1", "end open") + ROW
        self.assertEqual(answer_behind(text, off(4)), [0, 1, 2])

    def test_no_valve(self):
        for joint in (0, 3, 4, 5, 1000, 4294967295):
            self.assertEqual(answer_behind(ROW, off(joint)), [-1])
        self.assertEqual(answered(off(0)), [[-1]])


class MoreShut(unittest.TestCase):
    def test_no_pipe_more_is_come_to(self):
        for text, valves in ((ROW, [1, 2]), (RING, [1, 4])):
            rows = [[]]
            for valve in valves:
                rows += [row + [valve] for row in rows]
            came = {tuple(row): set(answer_behind(text, reach(*row))[1:]) for row in rows}
            for less in came:
                for more in came:
                    if set(less) <= set(more):
                        self.assertLessEqual(came[more], came[less])


class RefusedChangesNothing(unittest.TestCase):
    def test_shut_valves_of_one_call_are_not_the_next_ones(self):
        got = answered(read(ROW), reach(2), reach(), off(2), reach())
        self.assertEqual(got[1:], [[0, 2, 3], [0, 0, 1, 2, 3], [0, 0, 1], [0, 0, 1, 2, 3]])

    def test_refusals_between(self):
        got = answered(read(ROW), reach(2, 1), off(0), reach(9), reach(), reach(2))
        self.assertEqual(got[1:], [[-1], [-1], [-1], [0, 0, 1, 2, 3], [0, 2, 3]])


if __name__ == "__main__":
    unittest.main()
