"""Exact fractions: tuples of a numerator and a denominator above 0, in least terms."""

ZERO = (0, 1)
ONE = (1, 1)


def common_divisor(a, b):
    while b != 0:
        rest = a % b
        a = b
        b = rest
    return a


def fraction(top, bottom):
    common = common_divisor(abs(top), abs(bottom))
    if bottom < 0:
        common = -common
    return (top // common, bottom // common)


def negative(x):
    return (-x[0], x[1])


def plus(x, y):
    return fraction(x[0] * y[1] + y[0] * x[1], x[1] * y[1])


def minus(x, y):
    return plus(x, negative(y))


def times(x, y):
    return fraction(x[0] * y[0], x[1] * y[1])


def over(x, y):
    return fraction(x[0] * y[1], x[1] * y[0])
