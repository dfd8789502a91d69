"""Calls by their names, and answers call by call."""

from fractions import Fraction

from movingclocks.clocks import answers

NAMES = (
    "begin put drop move more leg unleg events factor speed tells apart square sooner ever sameat faster "
    "way end shows straight older meet back state"
).split()
COUNTS = dict(zip(NAMES, (0, 2, 1, 2, 2, 4, 1, 0, 0, 0, 1, 2, 2, 2, 2, 4, 4, 1, 1, 1, 1, 0, 0, 0, 0)))

LEAST = -2147483648
GREATEST = 2147483647
GREATEST_PLAIN = 4294967295

BEGIN = ("begin",)
EVENTS = ("events",)
FACTOR = ("factor",)
SPEED = ("speed",)
OLDER = ("older",)
MEET = ("meet",)
BACK = ("back",)
STATE = ("state",)

# Of each way as many as it can hold, and one more: the answers tell how many there were.
LEGS_LEFT = tuple(("unleg", w) for w in (0, 1) for k in range(7))

WRONG_PARTS = tuple(
    pair
    for wrong in (0, 10, GREATEST_PLAIN)
    for pair in ((wrong, 1), (1, wrong), (wrong, 9), (9, wrong), (wrong, wrong))
)

UP_TO_980 = (("move", 7, 1), ("more", 7, 1), ("more", 5, 1), ("more", 4, 1))
DOWN_TO_980 = (("move", 1, 7), ("more", 1, 7), ("more", 1, 5), ("more", 1, 4))
BOTH_GREAT = (("move", 9, 8), ("more", 9, 8), ("more", 9, 8))

# Each with the factor that the calls lead to.
FACTORS = (
    ((), Fraction(1)),
    ((("move", 9, 9),), Fraction(1)),
    ((("move", 2, 1),), Fraction(2)),
    ((("move", 2, 6),), Fraction(1, 3)),
    ((("move", 5, 3), ("more", 7, 9)), Fraction(35, 27)),
    (UP_TO_980, Fraction(980)),
    (DOWN_TO_980, Fraction(1, 980)),
    (BOTH_GREAT, Fraction(729, 512)),
)
PLACES = ((0, 0), (1, 0), (0, 1), (3, 3), (3, -3), (-7, 2), (99, 99), (99, -99), (-99, 99), (-99, -99), (99, -98))


def row(*calls):
    """The calls as the one list of whole numbers that is handed in."""
    numbers = []
    for name, *given in calls:
        assert len(given) == COUNTS[name], name
        numbers += [NAMES.index(name)] + given
    return numbers


def parted(answered):
    """The list that is given back, an own list for each call."""
    parts = []
    at = 0
    while at < len(answered):
        behind = at + 1 + answered[at]
        parts.append(answered[at + 1:behind])
        at = behind
    assert at == len(answered), "the last count is too great"
    return parts


def run(*calls):
    parts = parted(answers(row(*calls)))
    assert len(parts) == len(calls), "not as many answers as calls"
    return parts


def last(*calls):
    return run(*calls)[-1]


def puts(how_many):
    return tuple(("put", k, -k) for k in range(how_many))


def legs(w, how_many):
    return tuple(("leg", w, 2, 1, 1 + k) for k in range(how_many))


def two_events(one, other):
    return (BEGIN, ("put", *one), ("put", *other))


def two_numbers(*fractions):
    return [n for fraction in fractions for n in (fraction.numerator, fraction.denominator)]


HELD = (EVENTS, FACTOR, ("way", 0), ("way", 1))


def held(*calls):
    """What the object holds after these calls, but for what can be taken back."""
    return run(*calls, *HELD)[len(calls):]


def all_seen(*calls):
    """All that the calls after these can tell of the object, and of what it was ahead of each change."""
    seen = HELD + (STATE,) + 11 * ((BACK,) + HELD + (STATE,))
    return run(*calls, *seen)[len(calls):]
