import unittest

from helper import answered, lines, read

START = ("from a 0 0 0", "go e 10")


class FaultCase(unittest.TestCase):
    def assert_fault(self, text, kind, line):
        self.assertEqual(answered(read(text))[0], [-100, kind, line], text)

    def assert_sound(self, text):
        self.assertEqual(answered(read(text))[0][0], 0, text)


class Forms(FaultCase):
    def test_lines_that_have_no_form(self):
        wrong = ["", " ", "size", "size ", "size 5 ", " size 5", "size  5", "size 5 5", "size x", "size -5", "Size 5",
                 "size +5", "size 05", "size 00", "size 1234567", "size 5.0", "sizes 5", "size\t5", "size 5\r",
                 "from", "from b", "from b 0 0", "from b 0 0 0 0", "from b 0 0 -0", "from b 0 0 00", "from b 0 0 -01",
                 "from b 0 0 --1", "from b 0 - 0", "from b 1234567 0 0", "from b -1234567 0 0", "from 0 0 0",
                 "from B 0 0 0", "from abcdefghijklmnopq 0 0 0", "from b_ 0 0 0", "from b- 0 0 0", "from  0 0 0",
                 "at", "at a a", "at A", "at abcdefghijklmnopq", "at -", "go", "go e", "go 5", "go e 5 5", "go ee 5",
                 "go en 5", "go E 5", "go ud 5", "go neu 5", "go e x", "go e 05", "go e -5", "go e 1000000", "go  5",
                 "node", "node b b", "node b.", "valve", "valve v v", "valve V", "to", "to a a", "to ?", "end",
                 "end a", "end Open", "end open open", "end opened", "end source ", "hello", "5", "open", "?"]
        for row in wrong:
            self.assert_fault(row + "\n", 1, 0)
            self.assert_fault(lines(*START) + row + "\n", 1, 2)

    def test_bytes_beyond_the_signs(self):
        for number in (0, 9, 11, 13, 33, 46, 47, 58, 63, 64, 65, 90, 91, 95, 96, 123, 127, 128, 160, 255):
            for text in (b"size 5" + bytes([number]) + b"\n", b"size" + bytes([number]) + b"5\n",
                         bytes([number]) + b"\n", b"from a" + bytes([number]) + b" 0 0 0\n"):
                self.assert_fault(text, 1, 0)

    def test_names_of_1_and_of_16_signs(self):
        for name in ("a", "z", "0", "9", "abcdefghijklmnop", "0123456789az0912", "go", "e", "open"):
            self.assert_sound(lines(f"from {name} 0 0 0", "go e 1", "end cap", f"at {name}", "go n 1", "end cap"))

    def test_names_take_every_letter_and_digit(self):
        rows = []
        for sign in "abcdefghijklmnopqrstuvwxyz0123456789":
            rows += [f"from {sign} 0 0 0", "go e 1", "end cap"]
        self.assert_sound(lines(*rows))

    def test_the_last_line_is_not_ended(self):
        self.assert_fault("size 5", 1, 0)
        self.assert_fault("x", 1, 0)
        self.assert_fault(" ", 1, 0)
        self.assert_fault("size 5\nsize 5", 1, 1)
        # Whatever it says: a number out of bounds, a name that's none, a route left under way.
        self.assert_fault("size 5\nsize 0", 1, 1)
        self.assert_fault("size 5\nat b", 1, 1)
        self.assert_fault("from a 0 0 0\ngo e 5", 1, 1)
        self.assert_fault("from a 0 0 0\ngo e 5\nend cap", 1, 2)

    def test_a_fault_ahead_of_a_line_that_is_not_ended(self):
        self.assert_fault("size 0\nsize 5", 2, 0)
        self.assert_fault("at b\nx", 3, 0)

    def test_the_first_line_is_told(self):
        self.assert_fault(lines("size 5", "at b", "size 0", ""), 3, 1)
        self.assert_fault(lines("size 5", "", "size 0"), 1, 1)


class NumbersInBounds(FaultCase):
    def test_size(self):
        for number in ("0", "2001", "999999"):
            self.assert_fault(lines(f"size {number}"), 2, 0)
        for number in ("1", "2000"):
            self.assert_sound(lines(f"size {number}"))

    def test_go(self):
        for number in ("0", "100001", "999999"):
            self.assert_fault(lines("from a 0 0 0", f"go e {number}"), 2, 1)
        for number in ("1", "100000"):
            self.assert_sound(lines("from a 0 0 0", f"go e {number}", "end cap"))

    def test_whole_millimetres(self):
        for place in ("100001 0 0", "-100001 0 0", "0 100001 0", "0 -100001 0", "0 0 100001", "0 0 -999999"):
            self.assert_fault(lines(f"from a {place}"), 2, 0)
        for place in ("100000 -100000 100000", "-100000 100000 -100000", "-1 0 1"):
            self.assert_sound(lines(f"from a {place}", "go e 1", "end cap"))

    def test_pipes_may_lead_beyond_the_bounds_of_from(self):
        self.assert_sound(lines("from a 100000 0 0", "go e 100000", "go e 100000", "end cap"))


class Names(FaultCase):
    def test_a_name_that_is_had_already(self):
        had = START + ("node b", "go e 10", "valve v", "go e 10")
        for name in ("a", "b", "v"):
            self.assert_fault(lines(*had, "node " + name), 3, 6)
            self.assert_fault(lines(*had, "valve " + name), 3, 6)
            self.assert_fault(lines(*had, "end cap", f"from {name} 0 0 0"), 3, 7)
        self.assert_sound(lines(*had, "node c", "go e 1", "end cap"))

    def test_a_name_that_is_not_a_joints(self):
        had = START + ("valve v", "go e 10")
        for name in ("b", "v", "aa"):
            self.assert_fault(lines(*had, "to " + name), 3, 4)
            self.assert_fault(lines(*had, "end cap", "at " + name), 3, 5)

    def test_a_joint_that_node_named_is_found(self):
        self.assert_sound(lines(*START, "node b", "go e 1", "end cap", "at b", "go n 1", "end cap"))


class NotNow(FaultCase):
    def test_from_and_at_while_a_route_is_under_way(self):
        self.assert_fault(lines("from a 0 0 0", "from b 0 0 0"), 4, 1)
        self.assert_fault(lines(*START, "from b 0 0 0"), 4, 2)
        self.assert_fault(lines("from a 0 0 0", "at a"), 4, 1)
        self.assert_fault(lines(*START, "at a"), 4, 2)

    def test_what_needs_a_route_while_none_is(self):
        for row in ("go e 1", "node b", "valve b", "end cap"):
            self.assert_fault(lines(row), 4, 0)
        for row in ("go e 1", "node b", "valve b", "end cap", "to a"):
            self.assert_fault(lines(*START, "end cap", row), 4, 3)
            self.assert_fault(lines("from a 0 0 0", "go e 1", "go n 1", "go w 1", "go s 1", "to a", row), 4, 6)

    def test_where_the_joint_has_a_name(self):
        for row in ("node c", "valve c", "to a", "to b", "end cap"):
            self.assert_fault(lines(*START, "node b", row), 4, 3)

    def test_where_the_joint_has_a_valve(self):
        for row in ("node c", "valve c", "to a", "end cap"):
            self.assert_fault(lines(*START, "valve b", row), 4, 3)

    def test_while_the_route_has_no_pipe_yet(self):
        for row in ("node c", "valve c", "to a", "end cap"):
            self.assert_fault(lines("from a 0 0 0", row), 4, 1)
            self.assert_fault(lines(*START, "end cap", "at a", row), 4, 4)

    def test_size_is_free_at_any_time(self):
        self.assert_sound(lines("size 5", "from a 0 0 0", "size 6", "go e 1", "size 7", "valve v", "size 8", "go e 1",
                                "end cap", "size 9"))


class Angles(FaultCase):
    STEPS = {"e": (1, 0, 0), "w": (-1, 0, 0), "n": (0, 1, 0), "s": (0, -1, 0), "u": (0, 0, 1), "d": (0, 0, -1),
             "ne": (1, 1, 0), "se": (1, -1, 0), "nw": (-1, 1, 0), "sw": (-1, -1, 0), "eu": (1, 0, 1), "ed": (1, 0, -1),
             "wu": (-1, 0, 1), "wd": (-1, 0, -1), "nu": (0, 1, 1), "nd": (0, 1, -1), "su": (0, -1, 1),
             "sd": (0, -1, -1)}

    def allowed(self, one, two):
        product = sum(a * b for a, b in zip(one, two))
        size = sum(a * a for a in one) * sum(b * b for b in two)
        # The cosine, times itself, with its sign: 90, 135, 180 degrees are 0, -1/2, -1.
        return product == 0 or product < 0 and (product * product == size or 2 * product * product == size)

    def test_every_two_directions_that_leave_one_joint(self):
        for one, first in self.STEPS.items():
            for two, second in self.STEPS.items():
                text = lines("from a 0 0 0", f"go {one} 3", "end cap", "at a", f"go {two} 3", "end cap")
                if self.allowed(first, second):
                    self.assert_sound(text)
                else:
                    self.assert_fault(text, 5, 4)

    def test_every_two_directions_along_a_route(self):
        for one, first in self.STEPS.items():
            for two, second in self.STEPS.items():
                text = lines("from a 0 0 0", f"go {one} 3", f"go {two} 3", "end cap")
                if self.allowed([-step for step in first], second):
                    self.assert_sound(text)
                else:
                    self.assert_fault(text, 5, 2)

    def test_each_of_several_pipes_counts(self):
        three = ("from a 0 0 0", "go e 3", "end cap", "at a", "go w 3", "end cap", "at a", "go n 3", "end cap", "at a")
        for word in ("e", "w", "n", "ne", "nw", "nu", "eu"):
            self.assert_fault(lines(*three, f"go {word} 1"), 5, 10)
        for word in ("s", "u", "d", "su", "sd"):
            self.assert_sound(lines(*three, f"go {word} 1", "end cap"))

    def test_four_pipes_at_a_joint_and_one_more(self):
        rows = ["from a 0 0 0", "go e 1", "end cap"]
        for word in ("w", "n", "s"):
            rows += ["at a", f"go {word} 1", "end cap"]
        self.assert_sound(lines(*rows))
        self.assert_fault(lines(*rows, "at a", "go u 1", "end cap"), 5, 13)
        self.assert_fault(lines(*rows, "from b 0 0 5", "go d 5", "to a"), 5, 14)
        self.assert_sound(lines(*rows[:-3], "from b 0 0 5", "go d 5", "to a"))

    def test_behind_a_valve_just_straight_on(self):
        for word in ("n", "ne", "u", "eu", "w"):
            self.assert_fault(lines(*START, "valve v", f"go {word} 1"), 5, 3)
        self.assert_sound(lines(*START, "valve v", "go e 1", "end cap"))
        self.assert_sound(lines(*START, "size 7", "valve v", "size 9", "go e 1", "end cap"))


class Radii(FaultCase):
    def test_two_of_different_radius_go_straight_on(self):
        self.assert_sound(lines(*START, "size 60", "go e 1", "end cap"))
        for word in ("n", "ne", "u", "se"):
            self.assert_fault(lines(*START, "size 60", f"go {word} 1"), 5, 3)
            self.assert_sound(lines(*START, "size 50", f"go {word} 1", "end cap"))

    def test_the_radius_at_first_is_50(self):
        self.assert_sound(lines(*START, "size 50", "go n 1", "end cap"))
        self.assert_fault(lines(*START, "size 49", "go n 1"), 5, 3)

    def test_a_size_ahead_of_from(self):
        self.assert_fault(lines("size 9", "from a 0 0 0", "go e 1", "size 50", "go n 1"), 5, 4)

    def test_a_third_may_be_of_any_radius(self):
        two = (*START, "node b", "size 60", "go e 1", "end cap", "at b")
        for word in ("n", "u", "nu"):
            self.assert_sound(lines(*two, f"go {word} 1", "end cap"))
            self.assert_sound(lines(*two, "size 3", f"go {word} 1", "end cap"))
        alike = (*START, "node b", "go n 1", "end cap", "at b", "size 3")
        for word in ("e", "s", "u"):
            self.assert_sound(lines(*alike, f"go {word} 1", "end cap"))
        self.assert_fault(lines(*alike, "go nw 1"), 5, 7)

    def test_two_at_a_named_joint(self):
        rows = ("from a 0 0 0", "go e 1", "end cap", "size 9")
        self.assert_sound(lines(*rows, "from b -5 0 0", "go e 5", "to a"))
        self.assert_fault(lines(*rows, "from b 0 -5 0", "go n 5", "to a"), 5, 6)
        # The pipe's own radius counts, not the size that was told since.
        self.assert_fault(lines(*rows, "from b 0 -5 0", "go n 5", "size 50", "to a"), 5, 7)
        self.assert_sound(lines("from a 0 0 0", "go e 1", "end cap", "from b 0 -5 0", "go n 5", "size 9", "to a"))


class EndsAtANamedJoint(FaultCase):
    def test_the_angle_is_of_the_direction_back(self):
        rows = ("from a 0 0 0", "go e 1", "end cap")
        self.assert_sound(lines(*rows, "from b -5 0 0", "go e 5", "to a"))
        self.assert_fault(lines(*rows, "from b 5 0 0", "go w 5", "to a"), 5, 5)
        self.assert_sound(lines(*rows, "from b 0 5 0", "go s 5", "to a"))

    def test_the_angle_is_told_wherever_the_joint_stands(self):
        rows = ("from a 0 0 0", "go e 1", "end cap")
        self.assert_fault(lines(*rows, "from b 99 0 0", "go w 5", "to a"), 5, 5)
        self.assert_fault(lines(*rows, "from b 99 0 0", "go e 5", "to a"), 6, 5)

    def test_the_angle_where_the_pipe_began_is_not_asked_again(self):
        self.assert_fault(lines(*START, "node b", "go e 5", "to b"), 5, 4)

    def test_back_to_the_joint_where_the_pipe_begins(self):
        self.assert_fault(lines("from a 0 0 0", "go e 1", "to a"), 6, 2)
        # As if it led there the joint had a fifth pipe that leaves.
        rows = ["from a 0 0 0", "go e 1", "end cap", "at a", "go w 1", "end cap", "at a", "go n 1", "end cap"]
        self.assert_fault(lines(*rows, "at a", "go s 1", "to a"), 5, 11)

    def test_the_route_stands_elsewhere(self):
        square = ("from a 0 0 0", "go e 3", "go n 3", "go w 3")
        self.assert_sound(lines(*square, "go s 3", "to a"))
        for row in ("go s 2", "go s 4", "go s 100000"):
            self.assert_fault(lines(*square, row, "to a"), 6, 5)

    def test_aslant_is_never_whole(self):
        # 5 ne and 5 nw are 5 r to the north: 7 is near, and isn't it.
        for number in (7, 8, 5, 10):
            text = lines("from a 0 0 0", "go ne 5", "go nw 5", "node b", "go n 1", "end cap",
                         f"from c -9 {number} 0", "go e 9", "to b")
            self.assert_fault(text, 6, 8)
        self.assert_sound(lines("from a 0 0 0", "go ne 5", "go nw 5", "go sw 5", "go se 5", "to a"))


class LeastKind(FaultCase):
    def test_no_form_ahead_of_all(self):
        self.assert_fault(lines("from a 100001 0 -0"), 1, 0)
        self.assert_fault(lines(*START, "from a 100001 0"), 1, 2)

    def test_bounds_ahead_of_names_and_now(self):
        self.assert_fault(lines(*START, "from a 100001 0 0"), 2, 2)
        self.assert_fault(lines("go e 0"), 2, 0)
        self.assert_fault(lines(*START, "go w 100001"), 2, 2)

    def test_names_ahead_of_now(self):
        self.assert_fault(lines(*START, "from a 0 0 0"), 3, 2)
        self.assert_fault(lines(*START, "at b"), 3, 2)
        self.assert_fault(lines("to b"), 3, 0)
        self.assert_fault(lines(*START, "end cap", "node a"), 3, 3)
        self.assert_fault(lines(*START, "end cap", "valve a"), 3, 3)
        self.assert_fault(lines(*START, "node b", "node a"), 3, 3)
        self.assert_fault(lines(*START, "valve b", "to c"), 3, 3)

    def test_now_ahead_of_the_joint_and_the_place(self):
        self.assert_fault(lines(*START, "node b", "to a"), 4, 3)
        self.assert_fault(lines("from a 0 0 0", "go e 1", "end cap", "from b 99 0 0", "go w 5", "valve v", "to a"), 4, 6)

    def test_the_joint_ahead_of_the_place(self):
        self.assert_fault(lines("from a 0 0 0", "go e 1", "end cap", "from b 99 0 0", "go w 5", "to a"), 5, 5)


class RouteUnderWay(FaultCase):
    def test_the_text_ends_with_a_route_under_way(self):
        self.assert_fault(lines("from a 0 0 0"), 9, 1)
        self.assert_fault(lines(*START), 9, 2)
        self.assert_fault(lines(*START, "node b"), 9, 3)
        self.assert_fault(lines(*START, "valve b"), 9, 3)
        self.assert_fault(lines(*START, "end cap", "at a"), 9, 4)
        self.assert_fault(lines(*START, "size 4"), 9, 3)


if __name__ == "__main__":
    unittest.main()
