"""The calls on one object, handed in as one list of whole numbers."""

from movingclocks.changes import CHANGES
from movingclocks.history import HISTORY, change
from movingclocks.looks import LOOKS
from movingclocks.refusals import NOT_BEGUN
from movingclocks.ways import WAYS
from movingclocks.world import World

BEGIN = 0

# By a call's number. Ahead of a begin, too, a call's numbers must be walked over.
ARGUMENTS = (0, 2, 1, 2, 2, 4, 1, 0, 0, 0, 1, 2, 2, 2, 2, 4, 4, 1, 1, 1, 1, 0, 0, 0, 0)


def answers(calls):
    answered = []
    world = None
    at = 0
    while at < len(calls):
        number = calls[at]
        behind = at + 1 + ARGUMENTS[number]
        if number == BEGIN:
            world = World()
        answer = answer_of(world, number, calls[at + 1:behind])
        answered.append(len(answer))
        answered.extend(answer)
        at = behind
    return answered


def answer_of(world, number, given):
    if world is None:
        return [NOT_BEGUN]
    if number == BEGIN:
        return [0]
    if number in CHANGES:
        return change(world, number, given)
    if number in LOOKS:
        return LOOKS[number](world, given)
    if number in WAYS:
        return WAYS[number](world, given)
    return HISTORY[number](world, given)
