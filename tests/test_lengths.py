import math
import unittest

from pipewater.lengths import is_less, minus, plus, times, times_root


def near_zero():
    """Pairs p, q with p + q r ever nearer to 0, in turn below and above it."""
    pairs = []
    p, q = 1, 1
    while len(pairs) < 40:
        pairs.append((p, -q))
        p, q = p + 2 * q, p + q
    return pairs


class IsLess(unittest.TestCase):
    def assert_order(self, one, other):
        self.assertTrue(is_less(one, other), (one, other))
        self.assertFalse(is_less(other, one), (one, other))

    def test_of_two_that_are_the_same_none_is(self):
        for length in ((0, 0), (5, 7), (-5, 7), (10 ** 12, -10 ** 12)):
            self.assertFalse(is_less(length, length))

    def test_one_sign(self):
        self.assert_order((0, 0), (1, 0))
        self.assert_order((0, 0), (0, 1))
        self.assert_order((0, 0), (1, 1))
        self.assert_order((-1, -1), (0, 0))
        self.assert_order((-1, 0), (0, 0))
        self.assert_order((0, -1), (0, 0))

    def test_opposite_signs(self):
        self.assert_order((1, 0), (0, 1))
        self.assert_order((0, 1), (2, 0))
        self.assert_order((0, -1), (-1, 0))
        self.assert_order((-2, 0), (0, -1))
        self.assert_order((0, 2), (3, 0))
        self.assert_order((7, 0), (0, 5))

    def test_ever_nearer_to_0(self):
        for k, (p, q) in enumerate(near_zero()):
            below = (p, q) if k % 2 == 0 else (-p, -q)
            above = (-below[0], -below[1])
            self.assert_order(below, (0, 0))
            self.assert_order((0, 0), above)
            self.assert_order(below, above)
            self.assert_order((below[0], 0), (0, -below[1]))

    def test_both_moved(self):
        for k, (p, q) in enumerate(near_zero()):
            one, other = (13, 10 ** 11), (13 + p, 10 ** 11 + q)
            if k % 2 == 0:
                one, other = other, one
            self.assert_order(one, other)

    def test_all_small_ones(self):
        small = [(p, q) for p in range(-9, 10) for q in range(-9, 10)]
        root = math.isqrt(2 * 10 ** 60)
        by_size = sorted(small, key=lambda length: length[0] * 10 ** 30 + length[1] * root)
        for k, one in enumerate(by_size):
            for other in by_size[k + 1:]:
                self.assert_order(one, other)


class Reckoning(unittest.TestCase):
    def test_it(self):
        self.assertEqual(plus((1, 2), (30, -40)), (31, -38))
        self.assertEqual(minus((1, 2), (30, -40)), (-29, 42))
        self.assertEqual(times((3, -4), 25), (75, -100))
        self.assertEqual(times_root((3, -4)), (-8, 3))


if __name__ == "__main__":
    unittest.main()
