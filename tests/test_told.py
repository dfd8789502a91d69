"""Promise 3: factor, speed, tells, apart, square."""

import unittest
from fractions import Fraction

from tests.helper import (
    BEGIN, EVENTS, FACTOR, FACTORS, GREATEST_PLAIN, PLACES, SPEED, UP_TO_980, all_seen, last, puts, run, two_events,
    two_numbers,
)


def told(factor, t, x):
    less = (t - x) * factor
    both = (t + x) / factor
    return ((less + both) / 2, (both - less) / 2)


class Factor(unittest.TestCase):
    def test_at_first(self):
        self.assertEqual(last(BEGIN, FACTOR), [0, 1, 1])

    def test_handed_in_with_something_in_common(self):
        self.assertEqual(last(BEGIN, ("move", 6, 8), FACTOR), [0, 3, 4])

    def test_after_more(self):
        self.assertEqual(last(BEGIN, ("more", 6, 8), ("more", 2, 9), FACTOR), [0, 1, 6])

    def test_of_all(self):
        for calls, factor in FACTORS:
            self.assertEqual(last(BEGIN, *calls, FACTOR), [0] + two_numbers(factor))


class Speed(unittest.TestCase):
    def test_at_first(self):
        self.assertEqual(last(BEGIN, SPEED), [0, 0, 1])

    def test_one_way_and_the_other(self):
        self.assertEqual(last(BEGIN, ("move", 2, 1), SPEED), [0, 3, 5])
        self.assertEqual(last(BEGIN, ("move", 1, 2), SPEED), [0, -3, 5])

    def test_with_nothing_in_common(self):
        self.assertEqual(last(BEGIN, ("move", 3, 1), SPEED), [0, 4, 5])
        self.assertEqual(last(BEGIN, ("move", 6, 2), SPEED), [0, 4, 5])
        self.assertEqual(last(BEGIN, ("move", 7, 7), SPEED), [0, 0, 1])

    def test_after_more(self):
        self.assertEqual(last(BEGIN, ("move", 2, 1), ("more", 2, 1), SPEED), [0, 15, 17])
        self.assertEqual(last(BEGIN, ("move", 2, 1), ("more", 1, 2), SPEED), [0, 0, 1])

    def test_of_all(self):
        for calls, factor in FACTORS:
            speed = (factor * factor - 1) / (factor * factor + 1)
            self.assertEqual(last(BEGIN, *calls, SPEED), [0] + two_numbers(speed))

    def test_put_together_added_by_1_and_their_product(self):
        for p, q, r, s in ((2, 1, 3, 1), (2, 1, 1, 3), (5, 4, 7, 9), (9, 1, 9, 1), (6, 3, 8, 2)):
            one = Fraction(*last(BEGIN, ("move", p, q), SPEED)[1:])
            other = Fraction(*last(BEGIN, ("move", r, s), SPEED)[1:])
            both = Fraction(*last(BEGIN, ("move", p, q), ("more", r, s), SPEED)[1:])
            self.assertEqual(both, (one + other) / (1 + one * other))
            self.assertTrue(-1 < both < 1)


class Tells(unittest.TestCase):
    def test_at_0_0(self):
        for calls, factor in FACTORS:
            self.assertEqual(last(BEGIN, *calls, ("put", 0, 0), ("tells", 0)), [0, 0, 1, 0, 1])

    def test_with_the_factor_1_by_1_as_it_was_put(self):
        for t, x in PLACES:
            self.assertEqual(last(BEGIN, ("put", t, x), ("tells", 0)), [0, t, 1, x, 1])

    def test_by_hand(self):
        # 3 less 1 is 2, times 2 is 4; 3 and 1 is 4, by 2 is 2.
        self.assertEqual(last(BEGIN, ("put", 3, 1), ("move", 2, 1), ("tells", 0)), [0, 3, 1, -1, 1])
        self.assertEqual(last(BEGIN, ("put", 3, 1), ("move", 1, 2), ("tells", 0)), [0, 9, 2, 7, 2])
        self.assertEqual(last(BEGIN, ("put", 5, 3), ("move", 4, 2), ("tells", 0)), [0, 4, 1, 0, 1])
        self.assertEqual(last(BEGIN, ("put", 3, 5), ("move", 2, 1), ("tells", 0)), [0, 0, 1, 4, 1])
        self.assertEqual(last(BEGIN, ("put", -1, 0), ("move", 3, 2), ("tells", 0)), [0, -13, 12, 5, 12])

    def test_at_the_greatest(self):
        calls = (BEGIN, ("put", 99, -99), *UP_TO_980, ("tells", 0))
        self.assertEqual(last(*calls), [0, 97020, 1, -97020, 1])
        calls = (BEGIN, ("put", 99, 99), *UP_TO_980, ("tells", 0))
        self.assertEqual(last(*calls), [0, 99, 980, 99, 980])

    def test_each_place_with_each_factor(self):
        for calls, factor in FACTORS:
            for t, x in PLACES:
                wanted = [0] + two_numbers(*told(factor, t, x))
                self.assertEqual(last(BEGIN, ("put", t, x), *calls, ("tells", 0)), wanted)

    def test_of_the_event_that_is_named(self):
        self.assertEqual([last(BEGIN, *puts(8), ("tells", i)) for i in range(8)], [[0, i, 1, -i, 1] for i in range(8)])

    def test_no_such_event(self):
        self.assertEqual(last(BEGIN, ("tells", 0)), [-2])
        for i in (2, 3, 8, GREATEST_PLAIN):
            self.assertEqual(last(BEGIN, *puts(2), ("tells", i)), [-2])
        self.assertEqual(last(BEGIN, *puts(8), ("tells", 8)), [-2])


class Apart(unittest.TestCase):
    def test_how_much_later_and_farther_the_second_is(self):
        calls = two_events((2, 7), (5, 3))
        self.assertEqual(last(*calls, ("apart", 0, 1)), [0, 3, 1, -4, 1])
        self.assertEqual(last(*calls, ("apart", 1, 0)), [0, -3, 1, 4, 1])

    def test_of_an_event_and_itself(self):
        for calls, factor in FACTORS:
            self.assertEqual(last(*two_events((2, 7), (5, 3)), *calls, ("apart", 1, 1)), [0, 0, 1, 0, 1])

    def test_of_two_at_one_time_and_place(self):
        self.assertEqual(last(*two_events((2, 7), (2, 7)), ("move", 5, 1), ("apart", 0, 1)), [0, 0, 1, 0, 1])

    def test_at_one_time_for_one_factor_alone(self):
        calls = two_events((0, 0), (3, 5))
        self.assertEqual(last(*calls, ("move", 2, 1), ("apart", 0, 1)), [0, 0, 1, 4, 1])
        self.assertEqual(last(*calls, ("move", 1, 2), ("apart", 0, 1)), [0, 15, 2, 17, 2])

    def test_from_0_0_is_what_is_told(self):
        calls = two_events((0, 0), (-1, 0)) + (("move", 3, 2),)
        self.assertEqual(last(*calls, ("apart", 0, 1)), last(*calls, ("tells", 1)))

    def test_each_two_with_each_factor(self):
        for calls, factor in FACTORS:
            for one in PLACES:
                for other in PLACES:
                    wanted = [b - a for a, b in zip(told(factor, *one), told(factor, *other))]
                    answered = last(*two_events(one, other), *calls, ("apart", 0, 1))
                    self.assertEqual(answered, [0] + two_numbers(*wanted))

    def test_no_such_event(self):
        self.assertEqual(last(BEGIN, ("apart", 0, 0)), [-2])
        for i, j in ((0, 2), (2, 0), (2, 2), (GREATEST_PLAIN, 1), (1, GREATEST_PLAIN)):
            self.assertEqual(last(BEGIN, *puts(2), ("apart", i, j)), [-2])


class Square(unittest.TestCase):
    def test_above_0(self):
        self.assertEqual(last(*two_events((1, 1), (6, 4)), ("square", 0, 1)), [0, 16])

    def test_0(self):
        self.assertEqual(last(*two_events((1, 1), (4, 4)), ("square", 0, 1)), [0, 0])
        self.assertEqual(last(*two_events((1, 1), (4, -2)), ("square", 0, 1)), [0, 0])
        self.assertEqual(last(*two_events((1, 1), (4, 4)), ("square", 1, 1)), [0, 0])

    def test_below_0(self):
        self.assertEqual(last(*two_events((1, 1), (4, 6)), ("square", 0, 1)), [0, -16])

    def test_at_the_greatest(self):
        self.assertEqual(last(*two_events((-99, 0), (99, 0)), ("square", 0, 1)), [0, 39204])
        self.assertEqual(last(*two_events((0, 99), (0, -99)), ("square", 0, 1)), [0, -39204])

    def test_the_same_in_both_orders(self):
        for other in PLACES:
            calls = two_events((5, -2), other)
            self.assertEqual(last(*calls, ("square", 0, 1)), last(*calls, ("square", 1, 0)))

    def test_the_same_whoever_tells(self):
        for calls, factor in FACTORS:
            for other in PLACES:
                answered = run(*two_events((5, -2), other), *calls, ("apart", 0, 1), ("square", 0, 1))
                later = Fraction(*answered[-2][1:3])
                farther = Fraction(*answered[-2][3:])
                self.assertEqual(answered[-1], [0, later * later - farther * farther])

    def test_no_such_event(self):
        self.assertEqual(last(BEGIN, ("square", 0, 0)), [-2])
        for i, j in ((0, 2), (2, 0), (2, 2), (GREATEST_PLAIN, 1), (1, GREATEST_PLAIN)):
            self.assertEqual(last(BEGIN, *puts(2), ("square", i, j)), [-2])


class Looking(unittest.TestCase):
    def test_changes_nothing(self):
        before = (BEGIN, *puts(3), ("move", 3, 2), ("leg", 0, 2, 1, 4))
        looks = (EVENTS, FACTOR, SPEED)
        looks += (("tells", 1), ("tells", 3), ("apart", 0, 2), ("apart", 0, 3), ("square", 2, 1), ("square", 3, 1))
        for look in looks:
            self.assertEqual(all_seen(*before, look), all_seen(*before))
            self.assertEqual(last(*before, look, look), last(*before, look))


if __name__ == "__main__":
    unittest.main()
