"""Changes, and taking them back. Each call takes the world and the numbers given, and answers a list."""

from movingclocks.changes import CHANGES
from movingclocks.refusals import NO_CHANGE


def change(world, number, given):
    """Answers a call that changes the object, and remembers what was ahead of it, unless it is refused."""
    held = world.all_held()
    answer = CHANGES[number](world, given)
    if answer[0] >= 0:
        world.remember(held)
    return answer


def back(world, given):
    if len(world.past) == 0:
        return [NO_CHANGE]
    world.take_back()
    return [len(world.past)]


def state(world, given):
    return [len(world.events), len(world.ways[0]), len(world.ways[1]), len(world.past)]


HISTORY = {23: back, 24: state}
