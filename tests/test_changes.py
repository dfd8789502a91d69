"""Promise 2: put, drop, move, more, leg, unleg."""

import unittest

from tests.helper import (
    BEGIN, EVENTS, FACTOR, GREATEST, GREATEST_PLAIN, LEAST, LEGS_LEFT, SPEED, WRONG_PARTS, all_seen, last, legs, puts,
    run,
)

FULL = (BEGIN,) + puts(8) + (("move", 9, 7),) + legs(0, 6) + legs(1, 6)
PARTLY = (BEGIN,) + puts(3) + (("move", 3, 2),) + legs(0, 2) + legs(1, 1)


class Refused(unittest.TestCase):
    def refused(self, number, before, call):
        """The call is refused by its number alone, and leaves the object as it was."""
        self.assertEqual(last(*before, call), [number], call)
        self.assertEqual(all_seen(*before, call), all_seen(*before), call)


class Put(Refused):
    def test_its_number(self):
        self.assertEqual(run(BEGIN, *puts(8))[1:], [[k] for k in range(8)])

    def test_the_edges_of_time_and_place(self):
        for t, x in ((-99, -99), (-99, 99), (99, -99), (99, 99), (0, 99), (-99, 0)):
            self.assertEqual(run(BEGIN, ("put", t, x), EVENTS)[1:], [[0], [1, t, x]])

    def test_out_of_range(self):
        for wrong in (-100, 100, LEAST, GREATEST):
            for right in (-99, 0, 99):
                self.refused(-22, PARTLY, ("put", wrong, right))
                self.refused(-22, PARTLY, ("put", right, wrong))
            self.refused(-22, PARTLY, ("put", wrong, wrong))

    def test_the_ninth_is_too_many(self):
        self.assertEqual(last(BEGIN, *puts(8)), [7])
        self.refused(-28, FULL, ("put", 0, 0))
        self.refused(-28, FULL, ("put", -99, 99))

    def test_out_of_range_comes_ahead_of_too_many(self):
        self.refused(-22, FULL, ("put", 100, 0))
        self.refused(-22, FULL, ("put", 0, -100))

    def test_after_a_drop_there_is_room_again(self):
        self.assertEqual(run(*FULL, ("drop", 0), ("put", 1, 1), ("put", 1, 1))[-3:], [[7], [7], [-28]])


class Drop(Refused):
    def test_how_many_are_left(self):
        self.assertEqual(run(BEGIN, *puts(3), ("drop", 2), ("drop", 0), ("drop", 0))[4:], [[2], [1], [0]])

    def test_those_behind_it_are_numbered_one_less(self):
        wanted = {0: [2, 1, -1, 2, -2], 1: [2, 0, 0, 2, -2], 2: [2, 0, 0, 1, -1]}
        for i in wanted:
            self.assertEqual(last(BEGIN, *puts(3), ("drop", i), EVENTS), wanted[i])
        self.assertEqual(run(BEGIN, *puts(3), ("drop", 1), ("tells", 1), ("tells", 2))[-2:], [[0, 2, 1, -2, 1], [-2]])

    def test_all_else_stays(self):
        rest = (FACTOR,) + LEGS_LEFT
        self.assertEqual(run(*PARTLY, ("drop", 1), *rest)[-len(rest):], run(*PARTLY, *rest)[-len(rest):])

    def test_no_such_event(self):
        self.refused(-2, (BEGIN,), ("drop", 0))
        for i in (3, 4, 8, GREATEST, GREATEST_PLAIN):
            self.refused(-2, PARTLY, ("drop", i))
        self.refused(-2, FULL, ("drop", 8))


class Move(Refused):
    def test_is_the_factor_with_nothing_in_common(self):
        wanted = {
            (1, 1): [0, 1, 1], (9, 9): [0, 1, 1], (2, 1): [0, 2, 1], (1, 9): [0, 1, 9], (9, 1): [0, 9, 1],
            (4, 2): [0, 2, 1], (6, 9): [0, 2, 3], (9, 6): [0, 3, 2], (8, 9): [0, 8, 9], (3, 9): [0, 1, 3],
        }
        for p, q in wanted:
            self.assertEqual(run(BEGIN, ("move", p, q), FACTOR)[1:], [[0], wanted[(p, q)]])

    def test_takes_the_place_of_the_factor_before(self):
        self.assertEqual(last(BEGIN, ("move", 3, 2), ("more", 5, 1), ("move", 2, 3), FACTOR), [0, 2, 3])

    def test_out_of_range(self):
        for p, q in WRONG_PARTS:
            self.refused(-22, PARTLY, ("move", p, q))


class More(Refused):
    def test_is_put_together_with_the_factor(self):
        self.assertEqual(run(BEGIN, ("move", 3, 2), ("more", 5, 7), FACTOR)[2:], [[0, 15, 14], [0, 15, 14]])

    def test_with_nothing_in_common(self):
        self.assertEqual(last(BEGIN, ("move", 3, 2), ("more", 8, 9)), [0, 4, 3])
        self.assertEqual(last(BEGIN, ("more", 6, 4)), [0, 3, 2])
        self.assertEqual(run(BEGIN, ("more", 9, 9), FACTOR)[1:], [[0, 1, 1], [0, 1, 1]])

    def test_the_other_way_about_it_is_as_it_was(self):
        for p in range(1, 10):
            for q in range(1, 10):
                self.assertEqual(last(*PARTLY, ("more", p, q), ("more", q, p)), [0, 3, 2])

    def test_parts_up_to_999(self):
        # 980 is the greatest up to 999, 1000 the least above it, that parts from 1 to 9 multiply to.
        up = (BEGIN, ("move", 7, 1), ("more", 7, 1), ("more", 5, 1), ("more", 4, 1))
        self.assertEqual(run(*up, FACTOR)[-2:], [[0, 980, 1], [0, 980, 1]])
        down = (BEGIN, ("move", 1, 7), ("more", 1, 7), ("more", 1, 5), ("more", 1, 4))
        self.assertEqual(run(*down, FACTOR)[-2:], [[0, 1, 980], [0, 1, 980]])

    def test_too_great(self):
        up = (BEGIN, ("move", 5, 1), ("more", 5, 1), ("more", 5, 1), *puts(2), *legs(1, 2))
        down = (BEGIN, ("move", 1, 5), ("more", 1, 5), ("more", 1, 5), *puts(2), *legs(1, 2))
        for p, q in ((8, 1), (8, 3), (9, 1), (9, 8)):
            self.refused(-75, up, ("more", p, q))
            self.refused(-75, down, ("more", q, p))

    def test_too_great_only_with_nothing_in_common(self):
        up = (BEGIN, ("move", 5, 1), ("more", 5, 1), ("more", 5, 1))
        self.assertEqual(run(*up, ("more", 8, 2), FACTOR)[-2:], [[0, 500, 1], [0, 500, 1]])
        self.assertEqual(last(*up, ("more", 9, 9)), [0, 125, 1])
        self.assertEqual(last(*up, ("more", 8, 5)), [0, 200, 1])
        down = (BEGIN, ("move", 1, 5), ("more", 1, 5), ("more", 1, 5))
        self.assertEqual(last(*down, ("more", 2, 8)), [0, 1, 500])
        self.assertEqual(last(*down, ("more", 5, 8)), [0, 1, 200])

    def test_one_part_too_great_beside_one_that_is_not(self):
        both = (BEGIN, ("move", 9, 8), ("more", 9, 8), ("more", 9, 8))
        self.assertEqual(last(*both), [0, 729, 512])
        self.refused(-75, both, ("more", 1, 8))
        self.refused(-75, both, ("more", 5, 1))
        self.assertEqual(last(*both, ("more", 8, 9)), [0, 81, 64])

    def test_out_of_range(self):
        for p, q in WRONG_PARTS:
            self.refused(-22, PARTLY, ("more", p, q))

    def test_out_of_range_comes_ahead_of_too_great(self):
        great = (BEGIN, ("move", 9, 1), ("more", 9, 1), ("more", 9, 1))
        self.refused(-75, great, ("more", 2, 1))
        for p, q in ((10, 1), (2, 0), (9, 10), (GREATEST_PLAIN, 1)):
            self.refused(-22, great, ("more", p, q))


class Leg(Refused):
    def test_its_number(self):
        for w in (0, 1):
            self.assertEqual(run(BEGIN, *legs(w, 6))[1:], [[k] for k in range(6)])

    def test_each_way_has_its_own(self):
        calls = (BEGIN, ("leg", 0, 2, 1, 5), ("leg", 0, 2, 1, 5), ("leg", 1, 2, 1, 5), ("leg", 0, 2, 1, 5))
        self.assertEqual(run(*calls)[1:], [[0], [1], [0], [2]])

    def test_the_edges_of_its_arguments(self):
        for w in (0, 1):
            for p, q, shown in ((1, 1, 1), (9, 9, 99), (1, 9, 1), (9, 1, 99), (6, 4, 50)):
                self.assertEqual(last(BEGIN, ("leg", w, p, q, shown)), [0])

    def test_events_and_factor_stay(self):
        for look in (EVENTS, FACTOR, SPEED):
            self.assertEqual(last(*PARTLY, ("leg", 0, 7, 1, 3), look), last(*PARTLY, look))

    def test_no_such_way(self):
        for w in (2, 3, GREATEST_PLAIN):
            self.refused(-2, PARTLY, ("leg", w, 1, 1, 1))

    def test_out_of_range(self):
        for w in (0, 1):
            for p, q in WRONG_PARTS:
                self.refused(-22, PARTLY, ("leg", w, p, q, 1))
            for shown in (0, 100, GREATEST_PLAIN):
                self.refused(-22, PARTLY, ("leg", w, 1, 9, shown))

    def test_the_seventh_is_too_many(self):
        for w in (0, 1):
            self.refused(-28, FULL, ("leg", w, 1, 1, 1))
            self.refused(-28, (BEGIN,) + legs(w, 6), ("leg", w, 9, 1, 99))
            self.assertEqual(last(BEGIN, *legs(w, 6), ("leg", 1 - w, 1, 1, 1)), [0])

    def test_which_refusal_comes_first(self):
        self.refused(-2, FULL, ("leg", 2, 0, 10, 100))
        self.refused(-2, PARTLY, ("leg", 2, 1, 1, 0))
        for p, q, shown in ((0, 1, 1), (1, 10, 1), (1, 1, 0), (1, 1, 100)):
            self.refused(-22, FULL, ("leg", 0, p, q, shown))
            self.refused(-22, FULL, ("leg", 1, p, q, shown))

    def test_after_an_unleg_there_is_room_again(self):
        calls = FULL + (("unleg", 1), ("leg", 1, 1, 1, 1), ("leg", 1, 1, 1, 1))
        self.assertEqual(run(*calls)[-3:], [[5], [5], [-28]])


class Unleg(Refused):
    def test_how_many_are_left(self):
        calls = (BEGIN,) + legs(0, 2) + legs(1, 3) + LEGS_LEFT
        self.assertEqual(run(*calls)[6:], [[1], [0]] + [[-6]] * 5 + [[2], [1], [0]] + [[-6]] * 4)

    def test_of_six(self):
        self.assertEqual(run(*FULL, *LEGS_LEFT)[-14:], ([[5], [4], [3], [2], [1], [0], [-6]]) * 2)

    def test_no_such_way(self):
        for w in (2, 3, GREATEST_PLAIN):
            self.refused(-2, PARTLY, ("unleg", w))
            self.refused(-2, (BEGIN,), ("unleg", w))

    def test_no_leg(self):
        for w in (0, 1):
            self.refused(-6, (BEGIN,), ("unleg", w))
            self.refused(-6, (BEGIN,) + legs(1 - w, 2), ("unleg", w))


if __name__ == "__main__":
    unittest.main()
