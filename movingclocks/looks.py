"""The calls that only look. Each takes the world and the numbers given, and answers a list."""

from movingclocks.factors import speed_of, told
from movingclocks.refusals import NO_SUCH


def events(world, given):
    answer = [len(world.events)]
    for event in world.events:
        answer.extend(event)
    return answer


def factor(world, given):
    return [0, world.factor[0], world.factor[1]]


def speed(world, given):
    return [0] + list(speed_of(world.factor))


def tells(world, given):
    i = given[0]
    if not world.has_event(i):
        return [NO_SUCH]
    event = world.events[i]
    return [0] + list(told(world.factor, event[0], event[1]))


def both_there(world, given):
    return world.has_event(given[0]) and world.has_event(given[1])


def between(world, given):
    """How much later the second event is than the first, and its place less the first's."""
    first = world.events[given[0]]
    second = world.events[given[1]]
    return (second[0] - first[0], second[1] - first[1])


def apart(world, given):
    if not both_there(world, given):
        return [NO_SUCH]
    gap = between(world, given)
    # What is told of a difference is the difference of what is told: telling only multiplies and adds.
    return [0] + list(told(world.factor, gap[0], gap[1]))


def square(world, given):
    if not both_there(world, given):
        return [NO_SUCH]
    gap = between(world, given)
    return [0, gap[0] * gap[0] - gap[1] * gap[1]]


LOOKS = {7: events, 8: factor, 9: speed, 10: tells, 11: apart, 12: square}
