import unittest

from helper import answer_behind, answered, lines, off, reach, read


def read_alone(text):
    return answered(read(text))[0]


class FourNumbers(unittest.TestCase):
    def test_the_empty_text_is_a_system_of_nothing(self):
        self.assertEqual(read_alone(""), [0, 0, 0, 0, 0])

    def test_joints_pipes_valves_ends(self):
        text = lines("from a 0 0 0", "go e 10", "valve v", "go e 10", "node b", "go n 5", "end source",
                     "at b", "go s 7", "valve w", "go s 7", "valve x", "go s 1", "end open", "at a", "go u 1", "end cap")
        self.assertEqual(read_alone(text), [0, 8, 7, 3, 3])

    def test_each_kind_of_end_counts(self):
        for kind in ("open", "cap", "drain", "source"):
            self.assertEqual(read_alone(lines("from a 0 0 0", "go e 1", "end " + kind)), [0, 2, 1, 0, 1])

    def test_a_route_that_leads_back_has_no_end(self):
        text = lines("from a 0 0 0", "go e 3", "go n 3", "go w 3", "go s 3", "to a")
        self.assertEqual(read_alone(text), [0, 4, 4, 0, 0])

    def test_all_eight_forms_in_one_text(self):
        text = lines("size 20", "from a -5 0 7", "go e 3", "node b", "go n 3", "valve v", "go n 3", "go w 3",
                     "go s 6", "to a", "at b", "go e 9", "end drain")
        self.assertEqual(read_alone(text), [0, 6, 6, 1, 1])


class Directions(unittest.TestCase):
    def test_each_direction_leads_round_a_rectangle(self):
        rounds = [("e", "n", "w", "s"), ("n", "u", "s", "d"), ("e", "u", "w", "d"), ("ne", "nw", "sw", "se"),
                  ("eu", "wu", "wd", "ed"), ("nu", "su", "sd", "nd"), ("ne", "u", "sw", "d"), ("se", "u", "nw", "d"),
                  ("eu", "n", "wd", "s"), ("ed", "n", "wu", "s"), ("nu", "e", "sd", "w"), ("nd", "e", "su", "w")]
        for one, two, three, four in rounds:
            text = lines("from a 1 2 3", f"go {one} 7", f"go {two} 4", f"go {three} 7", f"go {four} 4", "to a")
            self.assertEqual(read_alone(text), [0, 4, 4, 0, 0], text)
            short = lines("from a 1 2 3", f"go {one} 7", f"go {two} 4", f"go {three} 7", f"go {four} 3", "to a")
            self.assertEqual(read_alone(short), [-100, 6, 5], short)

    def test_an_axis_goes_2000_units_a_millimetre_and_from_stands_at_whole_millimetres(self):
        steps = {"e": (5, 0, 0), "w": (-5, 0, 0), "n": (0, 5, 0), "s": (0, -5, 0), "u": (0, 0, 5), "d": (0, 0, -5)}
        for word, (x, y, z) in steps.items():
            there = lines(f"from b {x} {y} {z}", f"go {word} 1", "end cap", "from a 0 0 0", f"go {word} 5", "to b")
            self.assertEqual(read_alone(there), [0, 3, 2, 0, 1], word)
            beside = there.replace(f"go {word} 5", f"go {word} 6")
            self.assertEqual(read_alone(beside), [-100, 6, 5], word)

    def test_whole_and_rooted_parts_are_kept_apart(self):
        def round_of(*numbers):
            steps = zip(("e", "ne", "n", "w", "sw", "s"), numbers)
            return lines("from a 0 0 0", *[f"go {word} {number}" for word, number in steps], "to a")
        self.assertEqual(read_alone(round_of(3, 4, 5, 3, 4, 5)), [0, 6, 6, 0, 0])
        for numbers in ((3, 4, 5, 3, 5, 5), (3, 4, 5, 3, 4, 6), (3, 4, 5, 2, 4, 5), (5, 4, 5, 3, 6, 3)):
            self.assertEqual(read_alone(round_of(*numbers)), [-100, 6, 7], numbers)


class HoldsAndKeeps(unittest.TestCase):
    ONE = lines("from a 0 0 0", "go e 1", "valve v", "go e 1", "end source")
    TWO = lines("from a 0 0 0", "go e 1", "go e 1", "end source")

    def test_a_second_read_takes_the_place_of_the_first(self):
        got = answered(read(self.ONE), reach(1), read(self.TWO), reach(1), reach(), off(1))
        self.assertEqual(got[1], [0, 1])
        self.assertEqual(got[2:], [[0, 3, 2, 0, 1], [-1], [0, 0, 1], [-1]])

    def test_names_and_size_of_one_text_are_not_the_next_ones(self):
        got = answered(read(lines("size 9") + self.ONE), read(self.ONE), read(lines("at a")))
        self.assertEqual(got, [[0, 3, 2, 1, 1], [0, 3, 2, 1, 1], [-100, 3, 0]])
        mixed = lines("from a 0 0 0", "go e 1", "size 50", "go n 1", "end cap")
        self.assertEqual(answered(read(lines("size 9")), read(mixed))[1], [0, 3, 2, 0, 1])

    def test_a_fault_leaves_what_was_held(self):
        for wrong in ("x", "\n", lines("from a 0 0 0"), self.TWO + "at b\n", self.TWO + self.TWO):
            got = answered(read(self.ONE), read(wrong), reach(1), off(1))
            self.assertEqual(got[1][0], -100, wrong)
            self.assertEqual(got[2:], [[0, 1], [0, 0]], wrong)

    def test_the_empty_text_takes_the_place_too(self):
        self.assertEqual(answered(read(self.ONE), read(""), reach()), [[0, 3, 2, 1, 1], [0, 0, 0, 0, 0], [0]])

    def test_more_than_65536_bytes_are_refused(self):
        # Size lines of 9 bytes, and one of 7 to come out just at the bound.
        most = "size 100\n" * 7281 + "size 5\n"
        self.assertEqual(len(most), 65536)
        self.assertEqual(answered(read(self.ONE), read(most), reach(1))[1:], [[0, 0, 0, 0, 0], [-1]])
        for more in ("x", "\n"):
            self.assertEqual(answered(read(self.ONE), read(most + more), reach(1))[1:], [[-2], [0, 1]])


class Numbers(unittest.TestCase):
    def test_the_joint_made_last_is_free_behind_to(self):
        text = lines("from a 0 0 0", "go e 3", "go n 3", "go w 3", "go s 3", "to a",
                     "from b 9 9 9", "go e 1", "valve v", "go e 1", "end source")
        got = answered(read(text), off(5), off(4), off(6), reach())
        self.assertEqual(got, [[0, 7, 6, 1, 1], [0, 4], [-1], [-1], [0, 4, 5]])

    def test_pipes_are_numbered_as_they_come_over_routes(self):
        text = lines("from a 0 0 0", "go e 1", "end cap", "from b 5 5 5", "go e 1", "go e 1", "end source")
        self.assertEqual(answer_behind(text, reach()), [0, 1, 2])

    def test_the_last_pipe_leads_to_the_named_joint(self):
        text = lines("from a 0 0 0", "go e 3", "end cap", "from b -3 0 0", "go e 3", "to a",
                     "at b", "go w 2", "end source")
        self.assertEqual(answer_behind(text, reach()), [0, 0, 1, 2])

    def test_the_same_place_is_not_yet_the_same_joint(self):
        text = lines("from a 0 0 0", "go e 3", "end cap", "from b 0 0 0", "go e 3", "end source")
        self.assertEqual(answer_behind(text, reach()), [0, 1])


def joints_text(count):
    """One route of so many joints in a row."""
    return lines("from a 0 0 0") + "go e 1\n" * (count - 1) + "end cap\n"


def squares_text(pairs):
    """Pairs of squares with a corner in common: 7 joints and 8 pipes each."""
    rows = []
    for k in range(pairs):
        rows += [f"from a{k} 0 0 0", "go e 1", "go n 1", "go w 1", "go s 1", f"to a{k}",
                 f"at a{k}", "go w 1", "go s 1", "go e 1", "go n 1", f"to a{k}"]
    return lines(*rows)


class Bounds(unittest.TestCase):
    def test_1024_joints_and_one_more(self):
        self.assertEqual(read_alone(joints_text(1024)), [0, 1024, 1023, 0, 1])
        self.assertEqual(read_alone(joints_text(1025)), [-100, 8, 1024])
        self.assertEqual(read_alone(joints_text(1024) + lines("from b 0 0 0")), [-100, 8, 1025])

    def test_1024_pipes_and_one_more(self):
        self.assertEqual(read_alone(squares_text(128)), [0, 896, 1024, 0, 0])
        self.assertEqual(read_alone(squares_text(128) + lines("from b 0 0 0", "go e 1")), [-100, 8, 128 * 12 + 1])
        self.assertEqual(read_alone(squares_text(128) + lines("from b 0 0 0", "go e 0")), [-100, 2, 128 * 12 + 1])

    def test_a_joint_that_to_frees_may_be_made_again(self):
        square = lines("from b 0 0 0", "go e 3", "go n 3", "go w 3", "go s 3", "to b")
        fits = joints_text(1019) + square
        self.assertEqual(read_alone(fits), [0, 1023, 1022, 0, 1])
        self.assertEqual(read_alone(fits + lines("from c 0 0 0", "go e 1")), [-100, 8, 1019 + 1 + 6 + 1])
        # The joint is too many at its go, though its to would free it.
        self.assertEqual(read_alone(joints_text(1020) + square), [-100, 8, 1020 + 1 + 4])

    def test_the_least_kind_beside_too_many(self):
        self.assertEqual(read_alone(joints_text(1024) + lines("from a 0 0 0")), [-100, 3, 1025])
        route = lines("from a 0 0 0") + "go e 1\n" * 1023
        self.assertEqual(read_alone(route + "go w 1\n"), [-100, 5, 1024])
        self.assertEqual(read_alone(route + "from b 0 0 0\n"), [-100, 4, 1024])


if __name__ == "__main__":
    unittest.main()
