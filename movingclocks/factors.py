"""What a factor does. A factor is a fraction (p, q), both above 0; two put together are multiplied."""

from movingclocks.exact import lowest

GREATEST_GIVEN = 9


def is_factor(p, q):
    return 1 <= p <= GREATEST_GIVEN and 1 <= q <= GREATEST_GIVEN


def speed_of(factor):
    p_squared = factor[0] * factor[0]
    q_squared = factor[1] * factor[1]
    return lowest(p_squared - q_squared, p_squared + q_squared)


def told(factor, t, x):
    """The time and the place told with the factor: four numbers, two for each fraction."""
    p = factor[0]
    q = factor[1]
    # Both sums are kept times p * q, so that they stay whole until the end.
    less = (t - x) * p * p
    both = (t + x) * q * q
    below = 2 * p * q
    return lowest(both + less, below) + lowest(both - less, below)
