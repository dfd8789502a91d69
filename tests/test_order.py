"""Promise 3: sooner, ever, sameat, faster."""

import unittest
from fractions import Fraction

from tests.helper import (
    BEGIN, DOWN_TO_980, FACTOR, FACTORS, GREATEST, GREATEST_PLAIN, PLACES, UP_TO_980, WRONG_PARTS, last, parted, puts,
    row, run, two_events, two_numbers,
)
from movingclocks.clocks import answers

NO_SUCH_TWO = ((0, 2), (2, 0), (1, 2), (2, 1), (2, 2), (0, 8), (GREATEST_PLAIN, 1), (1, GREATEST_PLAIN),
               (GREATEST, 0), (0, GREATEST), (GREATEST_PLAIN, GREATEST_PLAIN))
ALL_FACTORS = tuple((p, q) for p in range(1, 10) for q in range(1, 10))


def answers_of(before, calls):
    """What is answered to the calls behind those before, in lines of at most 256 calls."""
    room = 256 - len(before)
    answered = []
    for at in range(0, len(calls), room):
        answered += parted(answers(row(*before, *calls[at:at + room])))[len(before):]
    return answered


class Sooner(unittest.TestCase):
    def test_with_the_factor_1_by_1(self):
        for other, wanted in (((3, 5), 0), ((1, 7), 0), ((0, 0), 1), ((0, 99), 1), ((0, -99), 1), ((-1, 0), 2),
                              ((-99, -99), 2), ((99, -99), 0)):
            self.assertEqual(last(*two_events((0, 0), other), ("sooner", 0, 1)), [wanted])
            self.assertEqual(last(*two_events((0, 0), other), ("sooner", 1, 0)), [2 - wanted])
            self.assertEqual(last(*two_events((0, 0), other), ("move", 5, 5), ("sooner", 0, 1)), [wanted])

    def test_with_others(self):
        calls = two_events((1, 2), (4, 7))
        for p, q, wanted in ((2, 1, 1), (4, 2, 1), (1, 2, 0), (3, 1, 2), (1, 1, 0), (9, 4, 2), (7, 4, 0)):
            self.assertEqual(last(*calls, ("move", p, q), ("sooner", 0, 1)), [wanted], (p, q))
            self.assertEqual(last(*calls, ("move", p, q), ("sooner", 1, 0)), [2 - wanted], (p, q))

    def test_with_factors_put_together(self):
        calls = two_events((1, 2), (4, 7))
        self.assertEqual(last(*calls, ("move", 4, 3), ("more", 3, 2), ("sooner", 0, 1)), [1])
        self.assertEqual(last(*calls, ("more", 9, 5), ("more", 9, 8), ("sooner", 0, 1)), [2])

    def test_that_hangs_on_the_greatest_factors(self):
        calls = two_events((0, 0), (98, 99))
        self.assertEqual(last(*calls, ("move", 9, 1), ("sooner", 0, 1)), [0])
        self.assertEqual(last(*calls, *UP_TO_980, ("sooner", 0, 1)), [2])
        self.assertEqual(last(*calls, *DOWN_TO_980, ("sooner", 0, 1)), [0])
        calls = two_events((0, 0), (98, -99))
        self.assertEqual(last(*calls, *UP_TO_980, ("sooner", 0, 1)), [0])
        self.assertEqual(last(*calls, *DOWN_TO_980, ("sooner", 0, 1)), [2])

    def test_by_light_alone_whoever_tells(self):
        for other in ((5, 5), (5, -5), (99, 99), (99, -99)):
            for calls, factor in FACTORS:
                self.assertEqual(last(*two_events((0, 0), other), *calls, ("sooner", 0, 1)), [0])
                self.assertEqual(last(*two_events((0, 0), other), *calls, ("sooner", 1, 0)), [2])

    def test_of_an_event_and_itself(self):
        for calls, factor in FACTORS:
            for i in (0, 1):
                self.assertEqual(last(*two_events((5, -2), (0, 0)), *calls, ("sooner", i, i)), [1])

    def test_of_two_at_one_time_and_place(self):
        for calls, factor in FACTORS:
            self.assertEqual(last(*two_events((5, -2), (5, -2)), *calls, ("sooner", 0, 1)), [1])

    def test_as_apart_tells(self):
        for calls, factor in FACTORS:
            for one in PLACES:
                for other in PLACES:
                    answered = run(*two_events(one, other), *calls, ("apart", 0, 1), ("sooner", 0, 1))[-2:]
                    later = answered[0][1]
                    self.assertEqual(answered[1], [0 if later > 0 else 2 if later < 0 else 1])

    def test_of_those_that_are_named(self):
        calls = (BEGIN, ("put", 3, 0), ("put", 1, 0), ("put", 2, 0))
        answered = run(*calls, *[("sooner", i, j) for i in range(3) for j in range(3)])[4:]
        self.assertEqual(answered, [[1], [2], [2], [0], [1], [0], [0], [2], [1]])

    def test_no_such_event(self):
        self.assertEqual(last(BEGIN, ("sooner", 0, 0)), [-2])
        for i, j in NO_SUCH_TWO:
            self.assertEqual(last(BEGIN, *puts(2), ("sooner", i, j)), [-2])


class Ever(unittest.TestCase):
    def test_at_one_time_and_place(self):
        self.assertEqual(last(*two_events((0, 0), (0, 0)), ("ever", 0, 1)), [1])
        self.assertEqual(last(*two_events((-7, 9), (-7, 9)), ("ever", 1, 0)), [1])

    def test_of_an_event_and_itself(self):
        for i in (0, 1):
            self.assertEqual(last(*two_events((5, -2), (0, 0)), ("ever", i, i)), [1])

    def test_sooner_whoever_tells(self):
        for other in ((1, 0), (3, 2), (3, -2), (99, 98), (99, -98)):
            self.assertEqual(last(*two_events((0, 0), other), ("ever", 0, 1)), [0])
            self.assertEqual(last(*two_events((0, 0), other), ("ever", 1, 0)), [2])

    def test_by_light_alone(self):
        for far in (1, 5, 99):
            for side in (far, -far):
                self.assertEqual(last(*two_events((0, 0), (far, side)), ("ever", 0, 1)), [0])
                self.assertEqual(last(*two_events((0, 0), (far, side)), ("ever", 1, 0)), [2])
                self.assertEqual(last(*two_events((0, 0), (-far, side)), ("ever", 0, 1)), [2])
                self.assertEqual(last(*two_events((0, 0), (-far, side)), ("ever", 1, 0)), [0])
        self.assertEqual(last(*two_events((-99, 99), (99, -99)), ("ever", 0, 1)), [0])

    def test_it_hangs_on_who_tells(self):
        for other in ((0, 1), (0, -1), (2, 3), (2, -3), (-2, 3), (-2, -3), (98, 99), (-98, 99), (0, 99)):
            self.assertEqual(last(*two_events((0, 0), other), ("ever", 0, 1)), [3])
            self.assertEqual(last(*two_events((0, 0), other), ("ever", 1, 0)), [3])

    def test_whatever_the_factor(self):
        for calls, factor in FACTORS:
            for other, wanted in (((3, 5), 3), ((5, 3), 0), ((-5, 3), 2), ((3, 3), 0), ((0, 0), 1)):
                self.assertEqual(last(*two_events((0, 0), other), *calls, ("ever", 0, 1)), [wanted])

    def test_away_from_0_0(self):
        self.assertEqual(last(*two_events((10, 20), (13, 22)), ("ever", 0, 1)), [0])
        self.assertEqual(last(*two_events((10, 20), (12, 23)), ("ever", 0, 1)), [3])
        self.assertEqual(last(*two_events((-10, -20), (-13, -17)), ("ever", 0, 1)), [2])

    def test_no_such_event(self):
        self.assertEqual(last(BEGIN, ("ever", 0, 0)), [-2])
        for i, j in NO_SUCH_TWO:
            self.assertEqual(last(BEGIN, *puts(2), ("ever", i, j)), [-2])


class SameAt(unittest.TestCase):
    def factors_of_one_time(self, before, i, j):
        answered = answers_of(before, [("sameat", i, j, p, q) for p, q in ALL_FACTORS])
        self.assertTrue(all(answer in ([0], [1]) for answer in answered))
        return [factor for factor, answer in zip(ALL_FACTORS, answered) if answer == [1]]

    def test_at_one_time_for_one_factor_alone(self):
        calls = two_events((0, 0), (3, 5))
        wanted = [(2, 1), (4, 2), (6, 3), (8, 4)]
        self.assertEqual(self.factors_of_one_time(calls, 0, 1), wanted)
        self.assertEqual(self.factors_of_one_time(calls, 1, 0), wanted)
        calls = two_events((1, 1), (4, -4))
        self.assertEqual(self.factors_of_one_time(calls, 0, 1), [(1, 2), (2, 4), (3, 6), (4, 8)])
        calls = two_events((0, 0), (65, 97))
        self.assertEqual(self.factors_of_one_time(calls, 0, 1), [(9, 4)])

    def test_at_one_time_for_the_factor_1_by_1(self):
        wanted = [(n, n) for n in range(1, 10)]
        self.assertEqual(self.factors_of_one_time(two_events((4, 1), (4, 9)), 0, 1), wanted)

    def test_at_one_time_for_none(self):
        for other in ((5, 3), (-5, 3), (1, 0), (1, 2), (98, 99)):
            self.assertEqual(self.factors_of_one_time(two_events((0, 0), other), 0, 1), [])

    def test_by_light_alone(self):
        for other in ((7, 7), (7, -7), (-7, 7), (-7, -7), (99, 99)):
            self.assertEqual(self.factors_of_one_time(two_events((0, 0), other), 0, 1), [])

    def test_of_an_event_and_itself(self):
        self.assertEqual(self.factors_of_one_time(two_events((5, -2), (0, 0)), 0, 0), list(ALL_FACTORS))
        self.assertEqual(self.factors_of_one_time(two_events((5, -2), (5, -2)), 0, 1), list(ALL_FACTORS))

    def test_whatever_the_factor(self):
        for calls, factor in FACTORS:
            before = two_events((0, 0), (3, 5)) + calls
            self.assertEqual(run(*before, ("sameat", 0, 1, 2, 1), ("sameat", 0, 1, 1, 1))[-2:], [[1], [0]])

    def test_as_sooner_tells(self):
        for p, q in ALL_FACTORS:
            for other in PLACES + ((3, 5), (5, 13), (-4, 5)):
                calls = two_events((0, 0), other) + (("sameat", 0, 1, p, q), ("move", p, q), ("sooner", 0, 1))
                answered = run(*calls)
                self.assertEqual(answered[3] == [1], answered[5] == [1])

    def test_no_such_event(self):
        self.assertEqual(last(BEGIN, ("sameat", 0, 0, 1, 1)), [-2])
        for i, j in NO_SUCH_TWO:
            self.assertEqual(last(BEGIN, *puts(2), ("sameat", i, j, 1, 1)), [-2])

    def test_out_of_range(self):
        for p, q in WRONG_PARTS:
            for i, j in ((0, 1), (1, 1)):
                self.assertEqual(last(BEGIN, *puts(2), ("sameat", i, j, p, q)), [-22])

    def test_no_such_event_comes_ahead_of_out_of_range(self):
        for p, q in WRONG_PARTS:
            self.assertEqual(last(BEGIN, ("sameat", 0, 0, p, q)), [-2])
            for i, j in NO_SUCH_TWO:
                self.assertEqual(last(BEGIN, *puts(2), ("sameat", i, j, p, q)), [-2])


class Faster(unittest.TestCase):
    def test_at_1_by_1(self):
        self.assertEqual(last(BEGIN, ("faster", 1, 1, 1, 1)), [0, 0, 1, 0, 1])
        self.assertEqual(last(BEGIN, ("faster", 1, 1, 2, 1)), [0, 3, 5, 3, 5])
        self.assertEqual(last(BEGIN, ("faster", 2, 1, 1, 1)), [0, 3, 5, -3, 5])

    def test_of_two(self):
        self.assertEqual(last(BEGIN, ("faster", 2, 1, 3, 1)), [0, 35, 37, 5, 13])
        self.assertEqual(last(BEGIN, ("faster", 3, 1, 2, 1)), [0, 35, 37, -5, 13])
        self.assertEqual(last(BEGIN, ("faster", 2, 3, 1, 5)), [0, -221, 229, -91, 109])

    def test_that_cancel(self):
        self.assertEqual(last(BEGIN, ("faster", 2, 1, 1, 2)), [0, 0, 1, -15, 17])
        self.assertEqual(last(BEGIN, ("faster", 2, 1, 2, 1)), [0, 15, 17, 0, 1])
        self.assertEqual(last(BEGIN, ("faster", 7, 5, 5, 7)), [0, 0, 1, -888, 1513])

    def test_with_something_in_common(self):
        self.assertEqual(last(BEGIN, ("faster", 4, 2, 9, 3)), [0, 35, 37, 5, 13])
        self.assertEqual(last(BEGIN, ("faster", 6, 3, 2, 4)), [0, 0, 1, -15, 17])
        self.assertEqual(last(BEGIN, ("faster", 9, 9, 8, 8)), [0, 0, 1, 0, 1])
        self.assertEqual(last(BEGIN, ("faster", 2, 9, 3, 4)), last(BEGIN, ("faster", 2, 9, 6, 8)))

    def test_at_the_greatest(self):
        self.assertEqual(last(BEGIN, ("faster", 9, 1, 9, 1)), [0, 3280, 3281, 0, 1])
        self.assertEqual(last(BEGIN, ("faster", 9, 1, 1, 9)), [0, 0, 1, -3280, 3281])
        self.assertEqual(last(BEGIN, ("faster", 1, 9, 9, 1)), [0, 0, 1, 3280, 3281])
        self.assertEqual(last(BEGIN, ("faster", 1, 9, 1, 9)), [0, -3280, 3281, 0, 1])

    def test_of_all(self):
        calls = [("faster", p, q, r, s) for p, q in ALL_FACTORS for r, s in ALL_FACTORS]
        for (name, p, q, r, s), answered in zip(calls, answers_of((BEGIN,), calls), strict=True):
            wanted = []
            for factor in (Fraction(p * r, q * s), Fraction(r * q, s * p)):
                wanted.append((factor ** 2 - 1) / (factor ** 2 + 1))
            self.assertEqual(answered, [0] + two_numbers(*wanted), (p, q, r, s))

    def test_whatever_the_factor(self):
        for calls, factor in FACTORS:
            answered = run(BEGIN, *calls, ("faster", 2, 1, 3, 1), FACTOR)[-2:]
            self.assertEqual(answered, [[0, 35, 37, 5, 13], [0] + two_numbers(factor)])

    def test_out_of_range(self):
        for wrong in (0, 10, 11, GREATEST, GREATEST_PLAIN):
            for right in ((1, 1, 1, 1), (9, 9, 9, 9), (2, 1, 3, 5)):
                for at in range(4):
                    given = right[:at] + (wrong,) + right[at + 1:]
                    self.assertEqual(last(BEGIN, ("faster", *given)), [-22], given)
        self.assertEqual(last(BEGIN, ("faster", 0, 0, 0, 0)), [-22])


if __name__ == "__main__":
    unittest.main()
