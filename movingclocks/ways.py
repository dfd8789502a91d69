"""The calls that look at ways. Each takes the world and the numbers given, and answers a list."""

from movingclocks.exact import half, lowest, minus, plus, times
from movingclocks.orders import SAME, heard, leader
from movingclocks.refusals import NO_SUCH, THERE_IS_NONE


def gone_on(legs):
    """How far time less place has gone on over the legs, and how far time and place together: two fractions."""
    less = (0, 1)
    both = (0, 1)
    for leg in legs:
        p = leg[0]
        q = leg[1]
        shown = leg[2]
        less = plus(less, lowest(shown * q, p))
        both = plus(both, lowest(shown * p, q))
    return (less, both)


def shown_over(legs):
    return sum([leg[2] for leg in legs])


def way(world, given):
    w = given[0]
    if not world.has_way(w):
        return [NO_SUCH]
    legs = world.ways[w]
    answer = [len(legs)]
    for leg in legs:
        answer.extend(leg)
    return answer


def end(world, given):
    w = given[0]
    if not world.has_way(w):
        return [NO_SUCH]
    gone = gone_on(world.ways[w])
    when = half(plus(gone[1], gone[0]))
    where = half(minus(gone[1], gone[0]))
    return [0] + list(when) + list(where)


def shows(world, given):
    w = given[0]
    if not world.has_way(w):
        return [NO_SUCH]
    return [shown_over(world.ways[w])]


def straight(world, given):
    w = given[0]
    if not world.has_way(w):
        return [NO_SUCH]
    gone = gone_on(world.ways[w])
    return [0] + list(times(gone[0], gone[1]))


def heard_at_ends(world):
    """At which way's end one can have heard of the other's."""
    first = gone_on(world.ways[0])
    second = gone_on(world.ways[1])
    less = minus(second[0], first[0])
    both = minus(second[1], first[1])
    # The numbers below are above 0, so those above tell which way each has gone on.
    return heard(less[0], both[0])


def older(world, given):
    if heard_at_ends(world) != SAME:
        return [THERE_IS_NONE]
    return [leader(shown_over(world.ways[0]) - shown_over(world.ways[1]))]


def meet(world, given):
    return [heard_at_ends(world)]


WAYS = {17: way, 18: end, 19: shows, 20: straight, 21: older, 22: meet}
