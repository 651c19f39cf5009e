"""Lengths p + q r, r the root of 2: each is the pair (p, q), in 1/2000 of a millimetre."""

NO_LENGTH = (0, 0)


def plus(one, other):
    return (one[0] + other[0], one[1] + other[1])


def minus(one, other):
    return (one[0] - other[0], one[1] - other[1])


def times(length, number):
    return (length[0] * number, length[1] * number)


def times_root(length):
    # r times q r is 2 q.
    return (2 * length[1], length[0])


def is_less(one, other):
    gap = minus(other, one)
    # Of two numbers the greater has the greater product with its own size, so p is above -q r just if p |p| is above
    # -2 q |q|: whole numbers, and nothing is rounded.
    return gap[0] * abs(gap[0]) + 2 * gap[1] * abs(gap[1]) > 0
