"""Exact fractions: tuples of two whole numbers with nothing in common, the second 1 or more."""


def common(a, b):
    """The greatest number that both have in common; a is 0 or more, b 1 or more."""
    while b > 0:
        rest = a % b
        a = b
        b = rest
    return a


def lowest(above, below):
    """The fraction above by below with nothing in common; below is 1 or more."""
    shared = common(abs(above), below)
    return (above // shared, below // shared)


def plus(one, other):
    return lowest(one[0] * other[1] + other[0] * one[1], one[1] * other[1])


def minus(one, other):
    return plus(one, (-other[0], other[1]))


def times(one, other):
    return lowest(one[0] * other[0], one[1] * other[1])


def half(one):
    return lowest(one[0], 2 * one[1])
