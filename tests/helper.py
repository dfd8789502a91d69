"""Calls by their names, and answers call by call."""

from movingclocks.clocks import answers

NAMES = (
    "begin put drop move more leg unleg events factor speed tells apart square sooner ever sameat faster "
    "way end shows straight older meet back state"
).split()
COUNTS = dict(zip(NAMES, (0, 2, 1, 2, 2, 4, 1, 0, 0, 0, 1, 2, 2, 2, 2, 4, 4, 1, 1, 1, 1, 0, 0, 0, 0)))

LEAST = -2147483648
GREATEST = 2147483647
GREATEST_PLAIN = 4294967295

BEGIN = ("begin",)
EVENTS = ("events",)
FACTOR = ("factor",)
SPEED = ("speed",)

# Of each way as many as it can hold, and one more: the answers tell how many there were.
LEGS_LEFT = tuple(("unleg", w) for w in (0, 1) for k in range(7))


def row(*calls):
    """The calls as the one list of whole numbers that is handed in."""
    numbers = []
    for name, *given in calls:
        assert len(given) == COUNTS[name], name
        numbers += [NAMES.index(name)] + given
    return numbers


def parted(answered):
    """The list that is given back, an own list for each call."""
    parts = []
    at = 0
    while at < len(answered):
        behind = at + 1 + answered[at]
        parts.append(answered[at + 1:behind])
        at = behind
    assert at == len(answered), "the last count is too great"
    return parts


def run(*calls):
    parts = parted(answers(row(*calls)))
    assert len(parts) == len(calls), "not as many answers as calls"
    return parts


def last(*calls):
    return run(*calls)[-1]


def puts(how_many):
    return tuple(("put", k, -k) for k in range(how_many))


def legs(w, how_many):
    return tuple(("leg", w, 2, 1, 1 + k) for k in range(how_many))


def all_seen(*calls):
    """All that the calls after these can tell of the object."""
    seen = (EVENTS, FACTOR, SPEED) + tuple(("tells", i) for i in range(9)) + LEGS_LEFT
    return run(*calls, *seen)[len(calls):]
