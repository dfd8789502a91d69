"""The calls that look at events and factors. Each takes the world and the numbers given, and answers a list."""

from movingclocks.exact import lowest, times
from movingclocks.factors import is_factor, speed_of, told
from movingclocks.orders import heard, leader
from movingclocks.refusals import NO_SUCH, OUT_OF_RANGE

# What ever answers where heard finds 0, 1, 2, 3: all tell the same order just if one can have heard of the other.
EVER = (1, 0, 2, 3)


def events(world, given):
    answer = [len(world.events)]
    for event in world.events:
        answer.extend(event)
    return answer


def factor(world, given):
    return [0, world.factor[0], world.factor[1]]


def speed(world, given):
    return [0] + list(speed_of(world.factor))


def tells(world, given):
    i = given[0]
    if not world.has_event(i):
        return [NO_SUCH]
    event = world.events[i]
    return [0] + list(told(world.factor, event[0], event[1]))


def both_there(world, given):
    return world.has_event(given[0]) and world.has_event(given[1])


def between(world, given):
    """How much later the second event is than the first, and its place less the first's."""
    first = world.events[given[0]]
    second = world.events[given[1]]
    return (second[0] - first[0], second[1] - first[1])


def apart(world, given):
    if not both_there(world, given):
        return [NO_SUCH]
    gap = between(world, given)
    # What is told of a difference is the difference of what is told: telling only multiplies and adds.
    return [0] + list(told(world.factor, gap[0], gap[1]))


def square(world, given):
    if not both_there(world, given):
        return [NO_SUCH]
    gap = between(world, given)
    return [0, gap[0] * gap[0] - gap[1] * gap[1]]


def sooner(world, given):
    if not both_there(world, given):
        return [NO_SUCH]
    gap = between(world, given)
    # The number below is above 0, so the one above tells which is sooner.
    return [leader(told(world.factor, gap[0], gap[1])[0])]


def ever(world, given):
    if not both_there(world, given):
        return [NO_SUCH]
    gap = between(world, given)
    return [EVER[heard(gap[0] - gap[1], gap[0] + gap[1])]]


def sameat(world, given):
    p = given[2]
    q = given[3]
    if not both_there(world, given):
        return [NO_SUCH]
    if not is_factor(p, q):
        return [OUT_OF_RANGE]
    gap = between(world, given)
    later = told((p, q), gap[0], gap[1])[0]
    return [1 if later == 0 else 0]


def faster(world, given):
    p = given[0]
    q = given[1]
    r = given[2]
    s = given[3]
    if not (is_factor(p, q) and is_factor(r, s)):
        return [OUT_OF_RANGE]
    second = lowest(r, s)
    onward = times(second, (p, q))
    against = times(second, (q, p))
    return [0] + list(speed_of(onward)) + list(speed_of(against))


LOOKS = {
    7: events, 8: factor, 9: speed, 10: tells, 11: apart, 12: square, 13: sooner, 14: ever, 15: sameat, 16: faster,
}
