import unittest

from helper import answered, isolate, left, level, lines, off, reach, read, wet
from pipewater.errors import NotACall
from pipewater.water import answers

TEXT = lines("from a 0 0 0", "go e 1", "valve v", "go e 1", "end source")

# A drain at joint 1, below joint 0; above it a valve at joint 2 and pipe 2 behind that.
HANGING = lines("from a 0 0 0", "go d 3", "end drain", "at a", "go u 5", "valve v", "go u 2", "end cap")

EVERY_CALL = (read(TEXT) + reach(1) + off(1) + isolate(0) + read("x") + reach(2, 1) + isolate(9) + read(HANGING)
              + level(0) + level(0, 2) + wet(1, 2) + left() + left(2) + level(2, 2) + level(9) + wet(9) + wet(0, 2, 1)
              + left(1))


class Lists(unittest.TestCase):
    def test_how_answers_are_laid(self):
        calls = read(TEXT) + [2, 0] + [2, 1, 1] + [3, 1] + [4, 0]
        self.assertEqual(answers(calls), [5, 0, 3, 2, 1, 1] + [3, 0, 0, 1] + [2, 0, 1] + [2, 0, 0] + [2, 0, 1])

    def test_how_lengths_are_laid(self):
        calls = read(HANGING) + [5, 0, 0] + [5, 1, 1, 2] + [6, 2, 0] + [6, 2, 1, 2] + [7, 0] + [7, 1, 2]
        self.assertEqual(answers(calls), [5, 0, 4, 3, 1, 2] + [3, 0, 0, 0] + [3, 0, -6000, 0] + [3, 0, 0, 0]
                         + [3, 0, 4000, 0] + [3, 0, 0, 0] + [3, 0, 10000000, 0])

    def test_p_is_ahead_of_q(self):
        text = lines("from a 0 0 1", "go eu 3", "end open")
        self.assertEqual(answers(read(text) + [5, 0, 0] + [7, 0])[6:], [3, 0, 2000, 3000, 3, 0, 15000000, 0])

    def test_an_empty_row_is_0_alone(self):
        self.assertEqual(answers([2, 0]), [1, 0])
        self.assertEqual(answers([1, 0]), [5, 0, 0, 0, 0, 0])

    def test_refusals_are_below_0_and_alone(self):
        calls = read(TEXT) + [2, 1, 0] + [3, 0] + [4, 1] + [4, 2]
        self.assertEqual(answers(calls)[6:], [1, -1, 1, -1, 1, -3, 1, -4])
        calls = read(HANGING) + [5, 0, 1, 0] + [5, 4, 0] + [5, 2, 1, 2] + [6, 0, 2, 2, 2] + [6, 3, 1, 2] + [7, 1, 3]
        self.assertEqual(answers(calls)[6:], [1, -1, 1, -4, 1, -3, 1, -1, 1, -4, 1, -1])

    def test_refused_2(self):
        rows = ["from a 0 0 0"]
        for k in range(13):
            rows += ["go e 1", f"valve v{k}"]
        self.assertEqual(answers(read(lines(*rows, "go e 1", "end source")) + [4, 0])[6:], [1, -2])

    def test_a_fault_is_minus_100_its_kind_its_line(self):
        self.assertEqual(answers(read("size 5\nsize 0\n")), [3, -100, 2, 1])
        self.assertEqual(answers(read("x")), [3, -100, 1, 0])
        self.assertEqual(answers(read("from a 0 0 0\n")), [3, -100, 9, 1])

    def test_calls_behind_a_refusal_and_a_fault_are_found(self):
        calls = read(TEXT) + read("x y z") + [2, 3, 5, 4, 3] + [4, 4294967295] + [3, 4294967295] + [2, 1, 1]
        self.assertEqual(answers(calls), [5, 0, 3, 2, 1, 1, 3, -100, 1, 0, 1, -1, 1, -4, 1, -1, 2, 0, 1])
        calls = (read(HANGING) + [5, 9, 3, 7, 6, 5] + [5, 4294967295, 1, 2] + [6, 4294967295, 1, 2] + [6, 0, 2, 2, 1]
                 + [7, 3, 2, 1, 0] + [5, 0, 0])
        self.assertEqual(answers(calls)[6:], [1, -1, 1, -4, 1, -4, 1, -1, 1, -1, 3, 0, 0, 0])

    def test_a_row_of_1100_numbers(self):
        shut = list(range(1100))
        for call in ([2], [5, 0], [6, 0], [7]):
            self.assertEqual(answers(read(HANGING) + call + [1100] + shut + [7, 0])[6:], [1, -1, 3, 0, 0, 0])

    def test_whole_numbers_are_ints(self):
        got = answers(read(TEXT) + [2, 0, 3, 1, 4, 0, 4, 1] + read("x"))
        got = got + answers(read(HANGING) + [5, 0, 0, 5, 2, 1, 2, 6, 0, 0, 6, 2, 1, 2, 6, 9, 0, 7, 0, 7, 1, 2])
        self.assertIs(type(got), list)
        self.assertEqual({type(number) for number in got}, {int})

    def test_a_number_that_is_no_calls(self):
        for number in (0, 8, 100):
            with self.assertRaises(NotACall):
                answers([2, 0, number])


class WhatIsHandedIn(unittest.TestCase):
    def test_it_is_as_it_was(self):
        calls = EVERY_CALL
        before = list(calls)
        answers(calls)
        self.assertEqual(calls, before)

    def test_it_is_not_changed_for_a_while_either(self):
        class Still(list):
            def refuse(self, *args, **kwargs):
                raise AssertionError("the list is changed")
            append = extend = insert = pop = remove = clear = sort = reverse = refuse
            __setitem__ = __delitem__ = __iadd__ = __imul__ = refuse
        calls = Still(EVERY_CALL)
        self.assertEqual(answers(calls), answers(list(calls)))

    def test_what_is_given_back_is_new(self):
        calls = [2, 0]
        got = answers(calls)
        got.append(5)
        self.assertEqual(answers(calls), [1, 0])


class NothingIsKept(unittest.TestCase):
    def test_each_time_is_as_if_the_first(self):
        calls = read(TEXT) + reach() + off(1) + level(0) + wet(0, 1) + left()
        first = answers(calls)
        self.assertEqual(answers(reach()), [1, 0])
        self.assertEqual(answers(off(1)), [1, -1])
        self.assertEqual(answers(isolate(0)), [1, -4])
        self.assertEqual(answers(level(0)), [1, -4])
        self.assertEqual(answers(wet(0)), [1, -4])
        self.assertEqual(answers(left()), [3, 0, 0, 0])
        self.assertEqual(answers(calls), first)


class Large(unittest.TestCase):
    def test_a_text_of_29900_bytes(self):
        text = "size 1000\n" * 2990
        self.assertEqual(len(text), 29900)
        self.assertEqual(answers(read(text)), [5, 0, 0, 0, 0, 0])
        self.assertEqual(answers(read("\n" * 29900)), [3, -100, 1, 0])
        self.assertEqual(answers(read("x" * 29900)), [3, -100, 1, 0])
        self.assertEqual(answers(read("go " * 9966 + "go")), [3, -100, 1, 0])

    def test_300_calls(self):
        text = lines("from a 0 0 0") + "go e 1\n" * 511 + lines("valve v") + "go e 1\n" * 511 + lines("end source")
        for call, want in ((reach(), list(range(1022))), (off(511), list(range(511))), (isolate(7), [511])):
            got = answered(read(text), *[call] * 299)
            self.assertEqual(got, [[0, 1023, 1022, 1, 1]] + [[0] + want] * 299)

    def test_many_texts(self):
        self.assertEqual(answered(*[read(TEXT)] * 300), [[0, 3, 2, 1, 1]] * 300)


if __name__ == "__main__":
    unittest.main()
