"""The calls that change an object. Each takes the world and the numbers given, and answers a list."""

from movingclocks.exact import lowest, times
from movingclocks.factors import is_factor
from movingclocks.refusals import NO_LEG, NO_SUCH, OUT_OF_RANGE, TOO_GREAT, TOO_MANY

FARTHEST = 99
MOST_EVENTS = 8
GREATEST_PART = 999
MOST_LEGS = 6
MOST_SHOWN = 99


def is_near(n):
    return -FARTHEST <= n <= FARTHEST


def put(world, given):
    t = given[0]
    x = given[1]
    if not (is_near(t) and is_near(x)):
        return [OUT_OF_RANGE]
    if len(world.events) == MOST_EVENTS:
        return [TOO_MANY]
    world.events.append((t, x))
    return [len(world.events) - 1]


def drop(world, given):
    i = given[0]
    if not world.has_event(i):
        return [NO_SUCH]
    world.events.pop(i)
    return [len(world.events)]


def move(world, given):
    p = given[0]
    q = given[1]
    if not is_factor(p, q):
        return [OUT_OF_RANGE]
    world.factor = lowest(p, q)
    return [0]


def more(world, given):
    p = given[0]
    q = given[1]
    if not is_factor(p, q):
        return [OUT_OF_RANGE]
    factor = times(world.factor, (p, q))
    if factor[0] > GREATEST_PART or factor[1] > GREATEST_PART:
        return [TOO_GREAT]
    world.factor = factor
    return [0, factor[0], factor[1]]


def leg(world, given):
    w = given[0]
    p = given[1]
    q = given[2]
    shown = given[3]
    if not world.has_way(w):
        return [NO_SUCH]
    if not (is_factor(p, q) and 1 <= shown <= MOST_SHOWN):
        return [OUT_OF_RANGE]
    legs = world.ways[w]
    if len(legs) == MOST_LEGS:
        return [TOO_MANY]
    legs.append(lowest(p, q) + (shown,))
    return [len(legs) - 1]


def unleg(world, given):
    w = given[0]
    if not world.has_way(w):
        return [NO_SUCH]
    legs = world.ways[w]
    if len(legs) == 0:
        return [NO_LEG]
    legs.pop()
    return [len(legs)]


CHANGES = {1: put, 2: drop, 3: move, 4: more, 5: leg, 6: unleg}
