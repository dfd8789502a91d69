"""Promise 5: older, meet."""

import unittest
from fractions import Fraction

from tests.helper import BACK, BEGIN, FACTORS, MEET, OLDER, last, legs, run


def ways(one, other):
    return (BEGIN,) + tuple(("leg", 0, *leg) for leg in one) + tuple(("leg", 1, *leg) for leg in other)


STRAIGHT = ((1, 1, 10),)
THERE_AND_BACK = ((2, 1, 4), (1, 2, 4))
BACK_AND_THERE = ((1, 2, 4), (2, 1, 4))

# Time less place and time and place together go on by 2 and 8, 8 and 2, 2 and 2.
RIGHT = ((2, 1, 4),)
LEFT = ((1, 2, 4),)
STILL = ((1, 1, 2),)


class Older(unittest.TestCase):
    def older(self, one, other, wanted):
        self.assertEqual(last(*ways(one, other), OLDER), [wanted])
        turned = 2 - wanted if wanted >= 0 else wanted
        self.assertEqual(last(*ways(other, one), OLDER), [turned])

    def test_who_goes_straight_shows_more(self):
        self.older(STRAIGHT, THERE_AND_BACK, 0)
        self.older(THERE_AND_BACK, STRAIGHT, 2)
        self.older(((2, 1, 20),), ((1, 1, 8), (4, 1, 8)), 0)

    def test_both_the_same(self):
        self.older(STRAIGHT, STRAIGHT, 1)
        self.older(THERE_AND_BACK, BACK_AND_THERE, 1)
        self.older(STRAIGHT, ((1, 1, 1), (1, 1, 2), (1, 1, 3), (1, 1, 4)), 1)
        self.older(((4, 2, 9),), ((2, 1, 4), (6, 3, 5)), 1)

    def test_neither_straight(self):
        self.older(THERE_AND_BACK + STRAIGHT, ((3, 1, 6), (1, 3, 6)), 0)

    def test_without_legs(self):
        self.older((), (), 1)
        self.older((), STRAIGHT, -33)
        self.older(STRAIGHT, (), -33)

    def test_after_unlegs_and_backs(self):
        calls = ways(STRAIGHT + RIGHT, THERE_AND_BACK + LEFT)
        self.assertEqual(run(*calls, OLDER, ("unleg", 0), OLDER, ("unleg", 1), OLDER)[-5:],
                         [[-33], [1], [-33], [2], [0]])
        self.assertEqual(run(*ways(STRAIGHT, THERE_AND_BACK), ("leg", 1, 1, 1, 1), OLDER, BACK, OLDER)[-3:],
                         [[-33], [3], [0]])

    def test_at_one_time_elsewhere(self):
        self.older(RIGHT, LEFT, -33)

    def test_at_one_place_at_other_times(self):
        self.older(STRAIGHT, STILL, -33)
        self.older(STRAIGHT, ((1, 1, 9),), -33)

    def test_by_light_alone(self):
        self.older(RIGHT, STILL, -33)
        self.older(LEFT, STILL, -33)

    def test_showing_the_same_but_not_at_one_time_and_place(self):
        self.older(((3, 2, 10),), ((3, 1, 10),), -33)

    def test_ends_that_hardly_differ(self):
        one = ((9, 8, 70), (7, 5, 35))
        self.older(one, one + ((8, 9, 1),), -33)
        self.older(((9, 8, 99),) * 5 + ((9, 8, 98),), ((9, 8, 99),) * 5 + ((9, 8, 97),), -33)
        self.older(((9, 8, 72), (8, 9, 72)), ((1, 1, 99), (1, 1, 46)), 2)
        self.older(((9, 8, 72), (8, 9, 72)), ((1, 1, 99), (1, 1, 45)), -33)

    def test_whatever_the_factor_and_the_events(self):
        for calls, factor in FACTORS:
            self.assertEqual(last(*ways(THERE_AND_BACK, STRAIGHT), ("put", 3, 4), *calls, OLDER), [2])


class Meet(unittest.TestCase):
    def meet(self, one, other, wanted):
        self.assertEqual(last(*ways(one, other), MEET), [wanted], (one, other))
        turned = {0: 0, 1: 2, 2: 1, 3: 3}[wanted]
        self.assertEqual(last(*ways(other, one), MEET), [turned], (other, one))

    def test_at_one_time_and_place(self):
        self.meet((), (), 0)
        self.meet(STRAIGHT, STRAIGHT, 0)
        self.meet(STRAIGHT, THERE_AND_BACK, 0)
        self.meet(THERE_AND_BACK, BACK_AND_THERE, 0)
        self.meet(((2, 1, 20),), ((1, 1, 8), (4, 1, 8)), 0)

    def test_one_without_legs(self):
        for other in (STRAIGHT, THERE_AND_BACK, RIGHT, LEFT, ((9, 1, 1),), ((1, 9, 99),)):
            self.meet((), other, 1)
            self.meet(other, (), 2)

    def test_one_can_have_heard(self):
        self.meet(STILL, STRAIGHT, 1)
        self.meet(RIGHT, STRAIGHT, 1)
        self.meet(STRAIGHT, ((1, 1, 10), (3, 1, 1)), 1)

    def test_by_light_alone(self):
        self.meet(STILL, RIGHT, 1)
        self.meet(STILL, LEFT, 1)
        self.meet(RIGHT, STILL, 2)
        self.meet(LEFT, STILL, 2)

    def test_all_but_by_light(self):
        # Time less place goes on by 99 by 9, or by one less or more; time and place together by much more.
        self.meet(((1, 1, 11),), ((9, 1, 99),), 1)
        self.meet(((1, 1, 12),), ((9, 1, 99),), 3)
        self.meet(((1, 1, 10),), ((9, 1, 99),), 1)
        self.meet(((1, 1, 11),), ((1, 9, 99),), 1)
        self.meet(((1, 1, 12),), ((1, 9, 99),), 3)

    def test_neither(self):
        self.meet(RIGHT, LEFT, 3)
        self.meet(((9, 1, 99),), ((1, 9, 99),), 3)
        self.meet(((2, 1, 4),), ((1, 1, 3),), 3)

    def test_as_the_ends_tell(self):
        some = ((), RIGHT, LEFT, STILL, STRAIGHT, THERE_AND_BACK, ((3, 2, 5),), ((8, 9, 7), (5, 4, 3)),
                ((9, 1, 9), (1, 9, 9)), ((5, 7, 11), (7, 5, 13), (1, 1, 2)), ((1, 4, 12),), ((4, 1, 3), (3, 4, 8)))
        for one in some:
            for other in some:
                answered = run(*ways(one, other), ("end", 0), ("end", 1), MEET)[-3:]
                first, second = [(Fraction(*end[1:3]), Fraction(*end[3:])) for end in answered[:2]]
                off = abs(first[1] - second[1])
                if first == second:
                    wanted = 0
                elif first[0] <= second[0] and off <= second[0] - first[0]:
                    wanted = 1
                elif second[0] <= first[0] and off <= first[0] - second[0]:
                    wanted = 2
                else:
                    wanted = 3
                self.assertEqual(answered[2], [wanted], (one, other))

    def test_whatever_the_factor_and_the_events(self):
        for calls, factor in FACTORS:
            self.assertEqual(last(*ways(STILL, STRAIGHT), ("put", 3, 4), *calls, MEET), [1])

    def test_of_6_legs_each(self):
        self.assertEqual(last(BEGIN, *legs(0, 6), *legs(1, 6), MEET), [0])
        self.assertEqual(last(BEGIN, *legs(0, 6), *legs(1, 5), MEET), [2])
        self.assertEqual(last(BEGIN, *legs(0, 5), *legs(1, 6), MEET), [1])


if __name__ == "__main__":
    unittest.main()
