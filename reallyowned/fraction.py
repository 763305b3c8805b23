"""Exact fractions: tuples (upper, lower) in lowest form, the lower number 1 or more."""

ZERO = (0, 1)
ONE = (1, 1)


def common_divisor(a, b):
    """The greatest number that divides both; b is 1 or more."""
    while b != 0:
        rest = a % b
        a = b
        b = rest
    return a


def lowest(upper, lower):
    """The fraction upper by lower; lower is 1 or more."""
    divisor = common_divisor(upper, lower)
    return (upper // divisor, lower // divisor)


def whole(number):
    return (number, 1)


def plus(x, y):
    return lowest(x[0] * y[1] + y[0] * x[1], x[1] * y[1])


def minus(x, y):
    return lowest(x[0] * y[1] - y[0] * x[1], x[1] * y[1])


def times(x, y):
    return lowest(x[0] * y[0], x[1] * y[1])


def over(x, y):
    """x divided by y; y is above 0."""
    return lowest(x[0] * y[1], x[1] * y[0])


def is_above(x, y):
    return x[0] * y[1] > y[0] * x[1]


def total(amounts):
    together = ZERO
    for amount in amounts:
        together = plus(together, amount)
    return together
