"""Promise 4: way, end, shows, straight."""

import unittest
from fractions import Fraction

from tests.helper import BACK, BEGIN, FACTORS, GREATEST, GREATEST_PLAIN, last, legs, run, two_numbers

# Each a way: of each leg p, q, and what the clock shows.
SOME_WAYS = (
    (),
    ((1, 1, 1),),
    ((1, 1, 99),),
    ((9, 1, 99),),
    ((1, 9, 1),),
    ((6, 4, 5),),
    ((2, 1, 4), (2, 1, 6)),
    ((2, 1, 4), (1, 2, 4)),
    ((3, 1, 7), (1, 3, 2), (5, 5, 11)),
    ((9, 7, 1), (8, 7, 1), (7, 5, 1), (5, 8, 1), (8, 9, 1), (7, 9, 1)),
    ((9, 1, 99),) * 6,
    ((1, 9, 99),) * 6,
    ((8, 9, 98), (9, 8, 97), (7, 8, 96), (8, 7, 95), (5, 7, 94), (7, 5, 93)),
)


def way_calls(w, way):
    return (BEGIN,) + tuple(("leg", w, *leg) for leg in way)


def told_of(w, way):
    """What way, end, shows and straight answer of the way w, if it goes so."""
    return run(*way_calls(w, way), ("way", w), ("end", w), ("shows", w), ("straight", w))[-4:]


def wanted_of(way):
    told = [len(way)]
    less = Fraction(0)
    both = Fraction(0)
    for p, q, shown in way:
        told += two_numbers(Fraction(p, q)) + [shown]
        less += shown / Fraction(p, q)
        both += shown * Fraction(p, q)
    shows = sum(leg[2] for leg in way)
    return [told, [0] + two_numbers((both + less) / 2, (both - less) / 2), [shows], [0] + two_numbers(less * both)]


class ByHand(unittest.TestCase):
    def told(self, way, wanted):
        for w in (0, 1):
            self.assertEqual(told_of(w, way), wanted)

    def test_without_legs(self):
        self.told((), [[0], [0, 0, 1, 0, 1], [0], [0, 0, 1]])

    def test_one_leg_that_stays_at_its_place(self):
        self.told(((1, 1, 5),), [[1, 1, 1, 5], [0, 5, 1, 0, 1], [5], [0, 25, 1]])

    def test_one_leg(self):
        # Time less place goes on by 4 by 2, time and place together by 4 times 2.
        self.told(((2, 1, 4),), [[1, 2, 1, 4], [0, 5, 1, 3, 1], [4], [0, 16, 1]])
        self.told(((1, 2, 4),), [[1, 1, 2, 4], [0, 5, 1, -3, 1], [4], [0, 16, 1]])

    def test_with_fractions(self):
        self.told(((1, 2, 1),), [[1, 1, 2, 1], [0, 5, 4, -3, 4], [1], [0, 1, 1]])
        self.told(((3, 2, 1), (1, 1, 1)), [[2, 3, 2, 1, 1, 1, 1], [0, 25, 12, 5, 12], [2], [0, 25, 6]])

    def test_a_factor_with_something_in_common(self):
        self.told(((4, 2, 4),), [[1, 2, 1, 4], [0, 5, 1, 3, 1], [4], [0, 16, 1]])
        self.told(((7, 7, 7),), [[1, 1, 1, 7], [0, 7, 1, 0, 1], [7], [0, 49, 1]])
        self.told(((3, 9, 6), (6, 9, 6)), [[2, 1, 3, 6, 2, 3, 6], [0, 33, 2, -21, 2], [12], [0, 162, 1]])

    def test_legs_of_one_factor_one_behind_another(self):
        self.told(((2, 1, 4), (2, 1, 6)), [[2, 2, 1, 4, 2, 1, 6], [0, 25, 2, 15, 2], [10], [0, 100, 1]])
        self.told(((1, 3, 1),) * 3, [[3] + [1, 3, 1] * 3, [0, 5, 1, -4, 1], [3], [0, 9, 1]])

    def test_there_and_back(self):
        self.told(((2, 1, 4), (1, 2, 4)), [[2, 2, 1, 4, 1, 2, 4], [0, 10, 1, 0, 1], [8], [0, 100, 1]])
        self.told(((1, 2, 4), (2, 1, 4)), [[2, 1, 2, 4, 2, 1, 4], [0, 10, 1, 0, 1], [8], [0, 100, 1]])
        self.told(((3, 2, 1), (2, 3, 1)), [[2, 3, 2, 1, 2, 3, 1], [0, 13, 6, 0, 1], [2], [0, 169, 36]])

    def test_of_6_legs(self):
        way = ((1, 1, 1), (2, 1, 2), (1, 2, 4), (3, 1, 3), (1, 3, 3), (1, 1, 9))
        self.told(way, [[6, 1, 1, 1, 2, 1, 2, 1, 2, 4, 3, 1, 3, 1, 3, 3, 1, 1, 9], [0, 55, 2, -3, 2], [22],
                        [0, 754, 1]])

    def test_at_the_greatest(self):
        self.told(((9, 1, 99),) * 6, [[6] + [9, 1, 99] * 6, [0, 2706, 1, 2640, 1], [594], [0, 352836, 1]])
        self.told(((1, 9, 99),) * 6, [[6] + [1, 9, 99] * 6, [0, 2706, 1, -2640, 1], [594], [0, 352836, 1]])


class Ways(unittest.TestCase):
    def test_as_the_document_tells_them(self):
        for way in SOME_WAYS:
            for w in (0, 1):
                self.assertEqual(told_of(w, way), wanted_of(way), way)

    def test_one_leg_of_each_factor(self):
        for p in range(1, 10):
            for q in range(1, 10):
                for shown in (1, 2, 60, 99):
                    self.assertEqual(told_of(0, ((p, q, shown),)), wanted_of(((p, q, shown),)))

    def test_each_has_its_own_legs(self):
        looks = tuple((name, w) for w in (0, 1) for name in ("way", "end", "shows", "straight"))
        for one in SOME_WAYS:
            for other in SOME_WAYS:
                calls = way_calls(0, one) + way_calls(1, other)[1:]
                self.assertEqual(run(*calls, *looks)[-8:], wanted_of(one) + wanted_of(other))

    def test_legs_of_both_put_by_turns(self):
        calls = (BEGIN, ("leg", 1, 3, 1, 1), ("leg", 0, 5, 1, 2), ("leg", 1, 1, 7, 3), ("leg", 0, 9, 6, 4))
        self.assertEqual(run(*calls, ("way", 0), ("way", 1))[-2:], [[2, 5, 1, 2, 3, 2, 4], [2, 3, 1, 1, 1, 7, 3]])

    def test_after_an_unleg(self):
        for way in SOME_WAYS[1:]:
            calls = way_calls(1, way) + (("unleg", 1), ("way", 1), ("end", 1), ("shows", 1), ("straight", 1))
            self.assertEqual(run(*calls)[-4:], wanted_of(way[:-1]))

    def test_after_a_back(self):
        for way in SOME_WAYS[1:]:
            calls = way_calls(0, way) + (BACK, ("way", 0), ("end", 0), ("shows", 0), ("straight", 0))
            self.assertEqual(run(*calls)[-4:], wanted_of(way[:-1]))

    def test_whatever_the_factor_and_the_events(self):
        way = SOME_WAYS[8]
        for calls, factor in FACTORS:
            before = way_calls(0, way) + (("put", 7, -8),) + calls
            answered = run(*before, ("way", 0), ("end", 0), ("shows", 0), ("straight", 0))[-4:]
            self.assertEqual(answered, wanted_of(way))

    def test_a_refused_leg_is_not_there(self):
        calls = (BEGIN, *legs(0, 6), ("leg", 0, 9, 9, 9), ("leg", 0, 0, 1, 1), ("leg", 2, 1, 1, 1))
        self.assertEqual(last(*calls, ("way", 0)), last(BEGIN, *legs(0, 6), ("way", 0)))

    def test_no_such_way(self):
        for name in ("way", "end", "shows", "straight"):
            for w in (2, 3, 6, GREATEST, GREATEST_PLAIN):
                self.assertEqual(last(BEGIN, (name, w)), [-2])
                self.assertEqual(last(BEGIN, *legs(0, 6), *legs(1, 6), (name, w)), [-2])


if __name__ == "__main__":
    unittest.main()
