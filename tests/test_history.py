"""Promise 1: back, state; a change, and which can be taken back."""

import unittest

from tests.helper import BACK, BEGIN, EVENTS, FACTOR, MEET, OLDER, SPEED, STATE, all_seen, held, last, legs, puts, run

PARTLY = (BEGIN,) + puts(3) + (("move", 3, 2), ("leg", 0, 4, 2, 7), ("leg", 1, 1, 9, 8), ("leg", 1, 5, 3, 2))

# Each leaves something else than was there.
CHANGES = (
    ("put", 5, -6), ("put", 0, 0), ("drop", 0), ("drop", 1), ("drop", 2), ("move", 1, 1), ("move", 9, 1), ("more", 5, 7),
    ("more", 2, 3), ("leg", 0, 1, 1, 1), ("leg", 1, 9, 8, 99), ("unleg", 0), ("unleg", 1),
)
REFUSED = (
    (("put", 100, 0), [-22]), (("put", 0, -100), [-22]), (("drop", 3), [-2]), (("move", 0, 1), [-22]),
    (("move", 1, 10), [-22]), (("more", 10, 1), [-22]), (("leg", 2, 1, 1, 1), [-2]), (("leg", 0, 0, 1, 1), [-22]),
    (("leg", 1, 1, 1, 100), [-22]), (("unleg", 2), [-2]), (("tells", 3), [-2]), (("sameat", 0, 1, 0, 1), [-22]),
    (("faster", 1, 1, 1, 0), [-22]), (("way", 2), [-2]), (OLDER, [-33]),
)
LOOKS = (
    EVENTS, FACTOR, SPEED, ("tells", 1), ("apart", 0, 2), ("square", 0, 1), ("sooner", 0, 1), ("ever", 2, 1),
    ("sameat", 0, 1, 2, 1), ("faster", 1, 2, 3, 4), ("way", 0), ("end", 1), ("shows", 0), ("straight", 1), OLDER, MEET,
    STATE,
)

# Forty, each of another sort than the one ahead of it; none is refused.
MANY = tuple(
    call
    for k in range(10)
    for call in (
        ("put", k, 9 - k), ("leg", k % 2, 1 + k % 4, 5 + k % 3, 10 + k), ("more", 1 + k % 3, 3 - k % 3),
        ("drop", 0) if k % 2 else ("unleg", k % 2),
    )
)


def changes_left(*calls):
    return last(*calls, STATE)[3]


class Back(unittest.TestCase):
    def test_with_nothing_to_take_back(self):
        self.assertEqual(last(BEGIN, BACK), [-6])
        self.assertEqual(run(BEGIN, BACK, BACK, STATE), [[0], [-6], [-6], [0, 0, 0, 0]])

    def test_behind_refused_calls_alone(self):
        refused = (("put", 100, 0), ("drop", 0), ("move", 1, 0), ("more", 0, 1), ("leg", 2, 1, 1, 1),
                   ("leg", 0, 1, 1, 0), ("unleg", 0), ("unleg", 2))
        wanted = [[0], [-22], [-2], [-22], [-22], [-2], [-22], [-6], [-2], [-6]]
        self.assertEqual(run(BEGIN, *refused, BACK), wanted)

    def test_behind_looks_alone(self):
        looks = (EVENTS, FACTOR, SPEED, ("faster", 1, 2, 3, 4), ("way", 0), ("end", 0), ("shows", 1), ("straight", 1),
                 OLDER, MEET, STATE)
        self.assertEqual(last(BEGIN, *looks, BACK), [-6])

    def test_behind_as_many_as_there_were_changes(self):
        for how_many in range(1, 11):
            backs = (BACK,) * (how_many + 2)
            wanted = [[left] for left in reversed(range(how_many))] + [[-6], [-6]]
            self.assertEqual(run(BEGIN, *MANY[:how_many], *backs)[-len(backs):], wanted)
            self.assertEqual(all_seen(BEGIN, *MANY[:how_many], *backs), all_seen(BEGIN))

    def test_behind_a_second_begin(self):
        self.assertEqual(run(*PARTLY, BEGIN, BACK)[-2:], [[0], [-6]])
        self.assertEqual(run(BEGIN, *MANY, BEGIN, BACK, STATE)[-3:], [[0], [-6], [0, 0, 0, 0]])
        self.assertEqual(run(BEGIN, *puts(2), BEGIN, ("put", 7, 7), BACK, BACK, EVENTS)[-3:], [[0], [-6], [0]])

    def test_refused_changes_nothing(self):
        self.assertEqual(all_seen(BEGIN, BACK), all_seen(BEGIN))
        self.assertEqual(all_seen(BEGIN, *MANY[:11], *(BACK,) * 11), all_seen(BEGIN, *MANY[:11], *(BACK,) * 10))


class BackOfEachChange(unittest.TestCase):
    def test_all_is_as_it_was(self):
        for change in CHANGES:
            self.assertNotEqual(held(*PARTLY, change), held(*PARTLY), change)
            self.assertEqual(last(*PARTLY, change, BACK), [7], change)
            self.assertEqual(all_seen(*PARTLY, change, BACK), all_seen(*PARTLY), change)

    def test_each_two_of_them(self):
        for one in CHANGES:
            for other in CHANGES:
                # With one leg taken away there may be none left for the other to take.
                if last(*PARTLY, one, other)[0] < 0:
                    continue
                self.assertEqual(all_seen(*PARTLY, one, other, BACK), all_seen(*PARTLY, one), (one, other))
                self.assertEqual(all_seen(*PARTLY, one, other, BACK, BACK), all_seen(*PARTLY), (one, other))

    def test_of_a_put(self):
        calls = (BEGIN, ("put", 3, 4), ("put", 5, 6), BACK)
        self.assertEqual(run(*calls, EVENTS, STATE)[-3:], [[1], [1, 3, 4], [1, 0, 0, 1]])

    def test_of_a_drop(self):
        for i in range(3):
            calls = (BEGIN, *puts(3), ("drop", i), BACK)
            self.assertEqual(run(*calls, EVENTS, STATE)[-3:], [[3], [3, 0, 0, 1, -1, 2, -2], [3, 0, 0, 3]])

    def test_of_a_move(self):
        calls = (BEGIN, ("move", 6, 4), ("move", 1, 7), BACK)
        self.assertEqual(run(*calls, FACTOR, BACK, FACTOR)[-4:], [[1], [0, 3, 2], [0], [0, 1, 1]])

    def test_of_a_more(self):
        calls = (BEGIN, ("move", 3, 2), ("more", 4, 3), FACTOR, BACK)
        self.assertEqual(run(*calls, FACTOR, STATE)[-4:], [[0, 2, 1], [1], [0, 3, 2], [0, 0, 0, 1]])

    def test_of_a_leg(self):
        calls = (BEGIN, ("leg", 1, 2, 4, 9), ("leg", 1, 3, 1, 8), ("leg", 0, 5, 1, 7), BACK, BACK)
        wanted = [[2], [1], [0], [1, 1, 2, 9], [0, 0, 1, 1]]
        self.assertEqual(run(*calls, ("way", 0), ("way", 1), STATE)[-5:], wanted)

    def test_of_an_unleg(self):
        calls = (BEGIN, ("leg", 0, 2, 4, 9), ("leg", 0, 3, 1, 8), ("leg", 1, 7, 1, 6), ("unleg", 0), BACK)
        wanted = [[3], [2, 1, 2, 9, 3, 1, 8], [1, 7, 1, 6], [0, 2, 1, 3]]
        self.assertEqual(run(*calls, ("way", 0), ("way", 1), STATE)[-4:], wanted)

    def test_of_the_last_that_there_was_room_for(self):
        calls = (BEGIN, *puts(8), BACK, ("put", 9, 9), ("put", 9, 9))
        self.assertEqual(run(*calls)[-3:], [[7], [7], [-28]])
        calls = (BEGIN, *legs(1, 6), BACK, ("leg", 1, 9, 9, 9), ("leg", 1, 9, 9, 9))
        self.assertEqual(run(*calls)[-3:], [[5], [5], [-28]])


class HowManyCanBe(unittest.TestCase):
    def test_the_last_10(self):
        for how_many in (10, 11, 12, 20, 21, 40):
            calls = (BEGIN, *MANY[:how_many])
            self.assertTrue(all(answer[0] >= 0 for answer in run(*calls)))
            self.assertEqual(changes_left(*calls), 10)
            self.assertEqual(run(*calls, *(BACK,) * 12)[-12:], [[k] for k in (9, 8, 7, 6, 5, 4, 3, 2, 1, 0, -6, -6)])
            for backs in range(1, 11):
                wanted = held(BEGIN, *MANY[:how_many - backs])
                self.assertEqual(held(*calls, *(BACK,) * backs), wanted, (how_many, backs))
            self.assertEqual(held(*calls, *(BACK,) * 13), held(BEGIN, *MANY[:how_many - 10]))

    def test_fewer_than_10(self):
        for how_many in range(10):
            self.assertEqual(changes_left(BEGIN, *MANY[:how_many]), how_many)

    def test_what_is_taken_back_makes_no_room_for_what_is_gone(self):
        calls = (BEGIN, *MANY[:11], BACK)
        self.assertEqual(changes_left(*calls), 9)
        self.assertEqual(run(*calls, *(BACK,) * 10)[-10:], [[k] for k in (8, 7, 6, 5, 4, 3, 2, 1, 0, -6)])

    def test_a_change_behind_a_back(self):
        calls = (BEGIN, *MANY[:11], BACK, ("move", 9, 1))
        self.assertEqual(changes_left(*calls), 10)
        self.assertEqual(held(*calls, BACK), held(BEGIN, *MANY[:10]))
        self.assertEqual(held(*calls, *(BACK,) * 10), held(BEGIN, *MANY[:1]))
        self.assertEqual(last(*calls, *(BACK,) * 11), [-6])

    def test_changes_behind_some_backs(self):
        calls = (BEGIN, *MANY[:12], BACK, BACK, BACK, ("put", -4, 4), ("move", 8, 1))
        self.assertEqual(changes_left(*calls), 9)
        self.assertEqual(held(*calls, BACK), held(BEGIN, *MANY[:9], ("put", -4, 4)))
        self.assertEqual(held(*calls, BACK, BACK), held(BEGIN, *MANY[:9]))
        self.assertEqual(held(*calls, *(BACK,) * 9), held(BEGIN, *MANY[:2]))
        self.assertEqual(last(*calls, *(BACK,) * 10), [-6])

    def test_a_back_is_no_change(self):
        calls = (BEGIN, ("put", 1, 1), ("put", 2, 2), BACK, BACK)
        self.assertEqual(run(*calls, STATE, BACK, EVENTS)[-3:], [[0, 0, 0, 0], [-6], [0]])

    def test_what_comes_behind_a_back_leaves_what_was_ahead_alone(self):
        calls = (BEGIN, ("put", 1, 1), ("leg", 0, 2, 1, 3), ("put", 2, 2), BACK)
        for change in (("put", 9, 9), ("drop", 0), ("leg", 0, 1, 1, 1), ("unleg", 0), ("leg", 1, 1, 1, 1)):
            self.assertEqual(all_seen(*calls, change, BACK), all_seen(*calls[:3]))


class WhatIsAChange(unittest.TestCase):
    def test_each_call_of_promise_2(self):
        for change in CHANGES:
            self.assertEqual(changes_left(*PARTLY, change), changes_left(*PARTLY) + 1, change)

    def test_one_that_leaves_the_factor_as_it_was(self):
        for same in (("move", 1, 1), ("move", 7, 7), ("more", 1, 1), ("more", 9, 9)):
            calls = (BEGIN, ("put", 4, 5), same)
            self.assertEqual(run(*calls, STATE, BACK, EVENTS, FACTOR, BACK, EVENTS)[-6:],
                             [[1, 0, 0, 2], [1], [1, 4, 5], [0, 1, 1], [0], [0]])
        calls = (BEGIN, ("move", 6, 4), ("move", 3, 2))
        self.assertEqual(run(*calls, STATE, BACK, FACTOR, BACK, FACTOR)[-5:],
                         [[0, 0, 0, 2], [1], [0, 3, 2], [0], [0, 1, 1]])

    def test_not_what_is_refused(self):
        for call, number in REFUSED:
            self.assertEqual(last(*PARTLY, call), number, call)
            self.assertEqual(all_seen(*PARTLY, call), all_seen(*PARTLY), call)

    def test_not_what_is_refused_as_too_many_or_too_great(self):
        for before, call, number in (
            ((BEGIN, *puts(8)), ("put", 1, 1), [-28]),
            ((BEGIN, *legs(0, 6)), ("leg", 0, 1, 1, 1), [-28]),
            ((BEGIN, ("move", 9, 1), ("more", 9, 1), ("more", 9, 1)), ("more", 2, 1), [-75]),
            ((BEGIN, ("move", 1, 9), ("more", 1, 9), ("more", 1, 9)), ("more", 1, 2), [-75]),
            ((BEGIN, *legs(0, 1), ("unleg", 0)), ("unleg", 0), [-6]),
        ):
            self.assertEqual(last(*before, call), number)
            self.assertEqual(all_seen(*before, call), all_seen(*before))

    def test_not_looking(self):
        for look in LOOKS:
            self.assertEqual(all_seen(*PARTLY, look), all_seen(*PARTLY), look)
            self.assertEqual(run(*PARTLY, look, look)[-1], last(*PARTLY, look), look)

    def test_not_a_begin(self):
        self.assertEqual(changes_left(BEGIN), 0)
        self.assertEqual(changes_left(BEGIN, ("put", 1, 1), BEGIN, BEGIN), 0)


class State(unittest.TestCase):
    def test_at_first(self):
        self.assertEqual(last(BEGIN, STATE), [0, 0, 0, 0])

    def test_how_many_events(self):
        for how_many in range(9):
            self.assertEqual(last(BEGIN, *puts(how_many), STATE), [how_many, 0, 0, how_many])
        self.assertEqual(last(BEGIN, *puts(4), ("drop", 1), STATE), [3, 0, 0, 5])

    def test_how_many_legs(self):
        for how_many in range(7):
            self.assertEqual(last(BEGIN, *legs(0, how_many), STATE), [0, how_many, 0, how_many])
            self.assertEqual(last(BEGIN, *legs(1, how_many), STATE), [0, 0, how_many, how_many])
        self.assertEqual(last(BEGIN, *legs(0, 3), *legs(1, 2), ("unleg", 0), STATE), [0, 2, 2, 6])

    def test_how_many_changes(self):
        self.assertEqual(last(BEGIN, ("move", 2, 1), STATE), [0, 0, 0, 1])
        self.assertEqual(last(BEGIN, ("move", 2, 1), ("more", 2, 1), BACK, STATE), [0, 0, 0, 1])
        self.assertEqual(last(BEGIN, *puts(8), *legs(0, 6), *legs(1, 5), STATE), [8, 6, 5, 10])

    def test_all_four(self):
        self.assertEqual(last(*PARTLY, STATE), [3, 1, 2, 7])
        self.assertEqual(last(BEGIN, *puts(5), *legs(0, 1), *legs(1, 4), BACK, BACK, STATE), [5, 1, 2, 8])


if __name__ == "__main__":
    unittest.main()
