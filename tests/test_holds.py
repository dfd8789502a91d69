"""'What holds', a to f, at many events, factors and ways. (g stands with back.)"""

import unittest
from fractions import Fraction

from tests.helper import (
    BEGIN, DOWN_TO_980, FACTOR, FACTORS, MEET, OLDER, PLACES, SPEED, UP_TO_980, last, run, two_events,
)

MOVES = FACTORS + tuple(
    ((("move", p, q),), Fraction(p, q)) for p, q in ((3, 2), (2, 3), (9, 1), (1, 9), (8, 7), (4, 9), (6, 4))
)
EVENTS_TOLD = PLACES + ((3, 5), (5, 3), (98, 99), (-98, 99), (13, 12), (-13, -12), (0, 99), (2, -50))
PAIRS = tuple((one, other) for one in EVENTS_TOLD for other in EVENTS_TOLD)

ONES = tuple((p, q) for p in range(1, 10) for q in range(1, 10))


def fractions_of(answer):
    """The fractions behind an answer's 0."""
    assert answer[0] == 0
    return [Fraction(*answer[at:at + 2]) for at in range(1, len(answer), 2)]


def can_have_heard(later, farther):
    return later >= 0 and abs(farther) <= later


class WhoeverTells(unittest.TestCase):
    def test_a_the_square_is_the_same(self):
        for calls, factor in MOVES:
            for one, other in PAIRS:
                answered = run(*two_events(one, other), *calls, ("apart", 0, 1), ("square", 0, 1))
                later, farther = fractions_of(answered[-2])
                self.assertEqual(answered[-1], [0, later * later - farther * farther])

    def test_b_who_can_have_heard_of_whom_is_the_same(self):
        for calls, factor in MOVES:
            for one, other in PAIRS:
                answered = run(*two_events(one, other), *calls, ("apart", 0, 1), ("ever", 0, 1))
                later, farther = fractions_of(answered[-2])
                of_first = can_have_heard(later, farther)
                of_second = can_have_heard(-later, -farther)
                wanted = {(True, True): 1, (True, False): 0, (False, True): 2, (False, False): 3}
                self.assertEqual(answered[-1], [wanted[(of_first, of_second)]], (one, other, factor))

    def test_c_all_tell_the_same_order_just_if_one_can_have_heard_of_the_other(self):
        for one, other in PAIRS:
            told = {
                last(*two_events(one, other), *calls, ("sooner", 0, 1))[0]
                for calls, factor in MOVES
            }
            ever = last(*two_events(one, other), ("ever", 0, 1))[0]
            if ever == 3:
                self.assertTrue(told >= {0, 2}, (one, other))
            else:
                self.assertEqual(told, {ever}, (one, other))

    def test_c_by_light_alone_no_factor_makes_them_one_time(self):
        for one, other in PAIRS:
            if one == other or last(*two_events(one, other), ("square", 0, 1)) != [0, 0]:
                continue
            self.assertIn(last(*two_events(one, other), ("ever", 0, 1)), ([0], [2]))
            answered = run(*two_events(one, other), *[("sameat", 0, 1, p, q) for p, q in ONES])[3:]
            self.assertEqual(answered, [[0]] * 81)


class OneMotionOnAnother(unittest.TestCase):
    def told_again(self, told, p, q):
        """What is told with p by q of what was told before."""
        less = (told[0] - told[1]) * Fraction(p, q)
        both = (told[0] + told[1]) / Fraction(p, q)
        return [(less + both) / 2, (both - less) / 2]

    def test_d_is_that_of_both_factors(self):
        for one in EVENTS_TOLD:
            for p, q, r, s in ((2, 1, 3, 1), (2, 3, 9, 8), (4, 2, 1, 2), (7, 9, 6, 5), (9, 1, 9, 1), (1, 1, 5, 2)):
                calls = (BEGIN, ("put", *one), ("move", p, q), ("tells", 0), ("more", r, s), ("tells", 0))
                answered = run(*calls)
                first = fractions_of(answered[3])
                self.assertEqual(fractions_of(answered[5]), self.told_again(first, r, s))

    def test_d_in_either_order(self):
        for p, q, r, s in ((2, 1, 3, 1), (2, 3, 9, 8), (7, 9, 6, 5)):
            one = run(BEGIN, ("put", 5, -2), ("move", p, q), ("more", r, s), FACTOR, ("tells", 0), SPEED)[-3:]
            other = run(BEGIN, ("put", 5, -2), ("move", r, s), ("more", p, q), FACTOR, ("tells", 0), SPEED)[-3:]
            self.assertEqual(one, other)

    def test_d_the_other_way_about_it_is_as_it_was(self):
        for one in EVENTS_TOLD:
            for p, q in ONES:
                there_and_back = (("more", p, q), ("more", q, p))
                answered = run(BEGIN, ("put", *one), ("move", 5, 3), ("tells", 0), *there_and_back, ("tells", 0))
                self.assertEqual(answered[6], answered[3])

    def test_e_speeds_put_together(self):
        speeds = {}
        for p, q in ONES:
            speeds[(p, q)] = fractions_of(last(BEGIN, ("move", p, q), SPEED))[0]
        for p, q in ONES:
            answered = run(BEGIN, *[("faster", p, q, r, s) for r, s in ONES])[1:]
            for (r, s), answer in zip(ONES, answered, strict=True):
                one = speeds[(p, q)]
                other = speeds[(r, s)]
                onward, against = fractions_of(answer)
                self.assertEqual(onward, (one + other) / (1 + one * other))
                self.assertEqual(against, (other - one) / (1 - one * other))
                self.assertTrue(-1 < onward < 1 and -1 < against < 1)

    def test_e_none_comes_to_that_of_light(self):
        for calls in (UP_TO_980, DOWN_TO_980):
            self.assertTrue(-1 < fractions_of(last(BEGIN, *calls, SPEED))[0] < 1)


class Straight(unittest.TestCase):
    def test_f_none_shows_more_than_straight(self):
        some = ((1, 1, 1), (2, 1, 9), (1, 3, 4), (9, 1, 99), (6, 4, 7), (5, 7, 2), (8, 9, 50))
        for one in some:
            for other in some:
                for third in some:
                    way = (one, other, third)
                    answered = run(BEGIN, *[("leg", 0, *leg) for leg in way], ("shows", 0), ("straight", 0))
                    shown = answered[-2][0]
                    straight = fractions_of(answered[-1])[0]
                    if len({Fraction(p, q) for p, q, clock in way}) == 1:
                        self.assertEqual(shown * shown, straight, way)
                    else:
                        self.assertLess(shown * shown, straight, way)

    def straight_legs(self, w, p, q, shown):
        """Legs of one factor, as many as it takes to show so much."""
        calls = []
        while shown > 0:
            calls.append(("leg", w, p, q, min(shown, 99)))
            shown -= min(shown, 99)
        assert len(calls) <= 6
        return calls

    def test_f_whoever_goes_straight_is_oldest_when_they_meet_again(self):
        met = 0
        for p, q in ONES:
            shown = p * q
            straight = p * p + q * q
            if not (shown <= 99 and straight <= 594):
                continue
            calls = [BEGIN, ("leg", 0, p, q, shown), ("leg", 0, q, p, shown)] + self.straight_legs(1, 1, 1, straight)
            self.assertEqual(run(*calls, MEET, OLDER)[-2:], [[0], [1 if p == q else 2]], (p, q))
            met += 1
        self.assertEqual(met, 81)

    def test_f_straight_at_another_factor(self):
        # 1 by 1 and r by s squared, one behind the other, are on the whole r by s.
        for r, s in ((2, 1), (1, 2), (3, 1), (1, 3), (3, 2), (2, 3), (1, 1)):
            shown = r * s
            calls = [BEGIN, ("leg", 1, 1, 1, shown), ("leg", 1, r * r, s * s, shown)]
            calls += self.straight_legs(0, r, s, r * r + s * s)
            self.assertEqual(run(*calls, MEET, OLDER)[-2:], [[0], [1 if r == s else 0]], (r, s))

    def test_f_as_old_just_if_the_other_went_straight_too(self):
        for p, q in ONES:
            one = [("leg", 0, p, q, shown) for shown in (30, 20, 10)]
            other = [("leg", 1, p, q, shown) for shown in (1, 2, 3, 4, 25, 25)]
            self.assertEqual(run(BEGIN, *one, *other, MEET, OLDER)[-2:], [[0], [1]])


if __name__ == "__main__":
    unittest.main()
