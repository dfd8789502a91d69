"""Exact fractions, told with nothing in common."""


def common(a, b):
    """The greatest number that both have in common; a is 0 or more, b 1 or more."""
    while b > 0:
        rest = a % b
        a = b
        b = rest
    return a


def lowest(above, below):
    """The fraction above by below with nothing in common; below is 1 or more."""
    shared = common(abs(above), below)
    return (above // shared, below // shared)
