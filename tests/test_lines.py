"""Lines of 256 calls in any order, answered as a second telling of the document answers them."""

import copy
import unittest
from fractions import Fraction

from movingclocks.clocks import answers
from tests.helper import COUNTS, GREATEST, GREATEST_PLAIN, LEAST, NAMES, parted, row, two_numbers

CHANGES = ("put", "drop", "move", "more", "leg", "unleg")


def speed_of(factor):
    return (factor ** 2 - 1) / (factor ** 2 + 1)


def told(factor, event):
    less = (event[0] - event[1]) * factor
    both = (event[0] + event[1]) / factor
    return ((less + both) / 2, (both - less) / 2)


def can_have_heard(here, there):
    """At here one can have heard of there."""
    return there[0] <= here[0] and abs(there[1] - here[1]) <= here[0] - there[0]


def outside(least, greatest, *numbers):
    return any(not least <= n <= greatest for n in numbers)


class Told:
    """The document, told once more, with Python's own fractions and copies of all there is."""

    def __init__(self):
        self.begun = False

    def answer(self, name, given):
        if name != "begin" and not self.begun:
            return [-11]
        ahead = copy.deepcopy(self.held) if name in CHANGES else None
        answered = getattr(self, name)(*given)
        if name in CHANGES and answered[0] >= 0:
            self.taken_back = (self.taken_back + [ahead])[-10:]
        return answered

    def begin(self):
        self.begun = True
        self.held = {"events": [], "factor": Fraction(1), "ways": [[], []]}
        self.taken_back = []
        return [0]

    def put(self, t, x):
        if outside(-99, 99, t, x):
            return [-22]
        if len(self.held["events"]) == 8:
            return [-28]
        self.held["events"] += [(t, x)]
        return [len(self.held["events"]) - 1]

    def drop(self, i):
        if self.no_event(i):
            return [-2]
        self.held["events"] = self.held["events"][:i] + self.held["events"][i + 1:]
        return [len(self.held["events"])]

    def move(self, p, q):
        if outside(1, 9, p, q):
            return [-22]
        self.held["factor"] = Fraction(p, q)
        return [0]

    def more(self, p, q):
        if outside(1, 9, p, q):
            return [-22]
        factor = self.held["factor"] * Fraction(p, q)
        if max(two_numbers(factor)) > 999:
            return [-75]
        self.held["factor"] = factor
        return [0] + two_numbers(factor)

    def leg(self, w, p, q, s):
        if w > 1:
            return [-2]
        if outside(1, 9, p, q) or outside(1, 99, s):
            return [-22]
        if len(self.held["ways"][w]) == 6:
            return [-28]
        self.held["ways"][w] += [(Fraction(p, q), s)]
        return [len(self.held["ways"][w]) - 1]

    def unleg(self, w):
        if w > 1:
            return [-2]
        if not self.held["ways"][w]:
            return [-6]
        self.held["ways"][w] = self.held["ways"][w][:-1]
        return [len(self.held["ways"][w])]

    def events(self):
        return [len(self.held["events"])] + [n for event in self.held["events"] for n in event]

    def factor(self):
        return [0] + two_numbers(self.held["factor"])

    def speed(self):
        return [0] + two_numbers(speed_of(self.held["factor"]))

    def no_event(self, *numbers):
        return any(i >= len(self.held["events"]) for i in numbers)

    def both_told(self, i, j, factor):
        return [told(factor, self.held["events"][k]) for k in (i, j)]

    def tells(self, i):
        if self.no_event(i):
            return [-2]
        return [0] + two_numbers(*told(self.held["factor"], self.held["events"][i]))

    def apart(self, i, j):
        if self.no_event(i, j):
            return [-2]
        first, second = self.both_told(i, j, self.held["factor"])
        return [0] + two_numbers(second[0] - first[0], second[1] - first[1])

    def square(self, i, j):
        if self.no_event(i, j):
            return [-2]
        first, second = self.both_told(i, j, Fraction(1))
        return [0, int((second[0] - first[0]) ** 2 - (second[1] - first[1]) ** 2)]

    def sooner(self, i, j):
        if self.no_event(i, j):
            return [-2]
        first, second = self.both_told(i, j, self.held["factor"])
        return [1 + (first[0] > second[0]) - (first[0] < second[0])]

    def ever(self, i, j):
        if self.no_event(i, j):
            return [-2]
        first, second = self.both_told(i, j, Fraction(1))
        if first == second:
            return [1]
        return [0 if can_have_heard(second, first) else 2 if can_have_heard(first, second) else 3]

    def sameat(self, i, j, p, q):
        if self.no_event(i, j):
            return [-2]
        if outside(1, 9, p, q):
            return [-22]
        first, second = self.both_told(i, j, Fraction(p, q))
        return [int(first[0] == second[0])]

    def faster(self, p, q, r, s):
        if outside(1, 9, p, q, r, s):
            return [-22]
        first = Fraction(p, q)
        second = Fraction(r, s)
        return [0] + two_numbers(speed_of(first * second), speed_of(second / first))

    def way(self, w):
        if w > 1:
            return [-2]
        way = self.held["ways"][w]
        return [len(way)] + [n for factor, shown in way for n in two_numbers(factor) + [shown]]

    def ends(self):
        """Of each way the time and the place where it ends."""
        ends = []
        for way in self.held["ways"]:
            # For itself the clock stays at its place; told with the leg's factor the other way, it goes along the leg.
            steps = [told(1 / factor, (shown, 0)) for factor, shown in way]
            ends.append((sum(step[0] for step in steps), sum(step[1] for step in steps)))
        return ends

    def end(self, w):
        if w > 1:
            return [-2]
        return [0] + two_numbers(*self.ends()[w])

    def shows(self, w):
        if w > 1:
            return [-2]
        return [sum(shown for factor, shown in self.held["ways"][w])]

    def straight(self, w):
        if w > 1:
            return [-2]
        time, place = self.ends()[w]
        return [0] + two_numbers(time ** 2 - place ** 2)

    def older(self):
        first, second = self.ends()
        if first != second:
            return [-33]
        first, second = self.shows(0)[0], self.shows(1)[0]
        return [0 if first > second else 2 if first < second else 1]

    def meet(self):
        first, second = self.ends()
        if first == second:
            return [0]
        return [1 if can_have_heard(second, first) else 2 if can_have_heard(first, second) else 3]

    def back(self):
        if not self.taken_back:
            return [-6]
        self.held = self.taken_back.pop()
        return [len(self.taken_back)]

    def state(self):
        return [len(self.held["events"])] + [len(way) for way in self.held["ways"]] + [len(self.taken_back)]


class Dice:
    """Numbers that look thrown, the same ones under every Python."""

    def __init__(self, seed):
        self.at = seed

    def below(self, n):
        self.at = (self.at * 6364136223846793005 + 1442695040888963407) % 2 ** 64
        return (self.at >> 33) % n

    def one_of(self, many):
        return many[self.below(len(many))]


PART = (1, 1, 1, 2, 2, 3, 4, 5, 6, 7, 8, 9)
WRONG_PART = (0, 10, 11, GREATEST, GREATEST_PLAIN)
WRONG_PLACE = (-100, 100, 1000, LEAST, GREATEST)

# Of these few, ways meet again often.
MEETING_LEGS = ((1, 1, 5), (2, 1, 2), (1, 2, 2))


def part(dice):
    return dice.one_of(WRONG_PART) if dice.below(40) == 0 else dice.one_of(PART)


def place(dice, far):
    return dice.one_of(WRONG_PLACE) if dice.below(40) == 0 else dice.below(2 * far + 1) - far


def event(dice):
    return dice.one_of((8, 9, GREATEST_PLAIN)) if dice.below(30) == 0 else dice.below(5)


def way_number(dice):
    return dice.one_of((2, 3, GREATEST_PLAIN)) if dice.below(20) == 0 else dice.below(2)


def shown(dice):
    return dice.one_of((0, 100, GREATEST_PLAIN)) if dice.below(30) == 0 else dice.one_of((1, 2, 4, 8, 12, 99))


def arguments(dice, name, far):
    if name == "put":
        return (place(dice, far), place(dice, far))
    if name == "sameat":
        return (event(dice), event(dice), part(dice), part(dice))
    if name in ("drop", "tells", "apart", "square", "sooner", "ever"):
        return tuple(event(dice) for k in range(COUNTS[name]))
    if name in ("move", "more", "faster"):
        return tuple(part(dice) for k in range(COUNTS[name]))
    if name == "leg" and far == 9:
        return (way_number(dice),) + dice.one_of(MEETING_LEGS)
    if name == "leg":
        return (way_number(dice), part(dice), part(dice), shown(dice))
    return tuple(way_number(dice) for k in range(COUNTS[name]))


def line(seed):
    """256 calls. By the seed, one sort comes more often than others, and begins are seldom or many."""
    dice = Dice(seed)
    names = list(NAMES[1:]) + list(CHANGES) * 2 + ["put", "leg", "leg"] * (seed % 3) + ["back"] * (seed % 4)
    names += ["begin"] * (seed % 5 == 0)
    far = (2, 9, 99)[seed % 3]
    calls = []
    for k in range(256):
        name = "begin" if k == seed % 4 else dice.one_of(names)
        calls.append((name,) + arguments(dice, name, far))
    return calls


class Lines(unittest.TestCase):
    def test_of_256_calls_in_any_order(self):
        seen = set()
        for seed in range(400):
            calls = line(seed)
            second = Told()
            answered = parted(answers(row(*calls)))
            self.assertEqual(len(answered), 256)
            for k, call in enumerate(calls):
                wanted = second.answer(call[0], call[1:])
                self.assertEqual(answered[k], wanted, (seed, k, calls[:k + 1]))
                seen.add((call[0], wanted[0]))
        self.assertTrue(seen >= all_first_numbers(), all_first_numbers() - seen)

    def test_of_any_calls_with_any_values(self):
        values = (0, 1, 2, 9, 10, 99, 100, GREATEST, GREATEST_PLAIN)
        for seed in range(60):
            dice = Dice(1000 + seed)
            second = Told()
            calls = [("begin",)] * (seed % 3 != 0)
            while len(calls) < 256:
                name = dice.one_of(NAMES[seed % 2:])
                among = values[:-1] + (-1, -99, -100, LEAST) if name == "put" else values
                calls.append((name,) + tuple(dice.one_of(among) for k in range(COUNTS[name])))
            wanted = [second.answer(call[0], call[1:]) for call in calls]
            self.assertEqual(parted(answers(row(*calls))), wanted, seed)

    def test_the_longest_list(self):
        calls = [("leg", 1, 9, 1, 99), ("sameat", 0, 0, 9, 9), ("faster", 9, 1, 1, 9), ("begin",)] + [
            ("faster", 9, 1, 1, 9), ("leg", 0, 2, 4, 99), ("sameat", 0, 0, 9, 9),
        ] * 84
        self.assertEqual(len(calls), 256)
        self.assertEqual(len(row(*calls)), 1276)
        second = Told()
        self.assertEqual(parted(answers(row(*calls))), [second.answer(call[0], call[1:]) for call in calls])

    def test_the_list_that_is_handed_in_stays_as_it_was(self):
        for seed in range(20):
            handed = row(*line(seed))
            kept = list(handed)
            answers(handed)
            self.assertEqual(handed, kept)

    def test_two_uses_one_behind_the_other(self):
        first = {seed: answers(row(*line(seed))) for seed in range(20)}
        for seed in reversed(range(20)):
            self.assertEqual(answers(row(*line(seed))), first[seed])


def all_first_numbers():
    """Every number that a call can answer first, but for how much a clock shows."""
    first = {"begin": [0], "put": [-22, -28] + list(range(8)), "drop": [-2] + list(range(8)), "move": [-22, 0]}
    first["more"] = [-22, -75, 0]
    first["leg"] = [-2, -22, -28] + list(range(6))
    first["unleg"] = [-2, -6] + list(range(6))
    first["events"] = list(range(9))
    for name in ("tells", "apart", "square", "end", "straight"):
        first[name] = [-2, 0]
    for name in ("factor", "speed"):
        first[name] = [0]
    first["sooner"] = [-2, 0, 1, 2]
    first["ever"] = [-2, 0, 1, 2, 3]
    first["sameat"] = [-2, -22, 0, 1]
    first["faster"] = [-22, 0]
    first["way"] = [-2] + list(range(7))
    first["shows"] = [-2, 0]
    first["older"] = [-33, 0, 1, 2]
    first["meet"] = [0, 1, 2, 3]
    first["back"] = [-6] + list(range(10))
    first["state"] = list(range(9))
    return {(name, n) for name in first for n in first[name]} | {(name, -11) for name in NAMES[1:]}


if __name__ == "__main__":
    unittest.main()
