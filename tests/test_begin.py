"""Promise 1: begin, events."""

import unittest

from tests.helper import BEGIN, EVENTS, FACTOR, SPEED, all_seen, last, legs, puts, run


class Begin(unittest.TestCase):
    def test_answers_0(self):
        self.assertEqual(run(BEGIN), [[0]])

    def test_leaves_no_events_the_factor_1_by_1_and_no_legs(self):
        answered = run(BEGIN, EVENTS, FACTOR, SPEED, ("tells", 0), ("unleg", 0), ("unleg", 1))
        self.assertEqual(answered, [[0], [0], [0, 1, 1], [0, 0, 1], [-2], [-6], [-6]])

    def test_a_second_time_behind_other_calls(self):
        calls = (BEGIN,) + puts(8) + (("move", 3, 2), ("more", 9, 1)) + legs(0, 6) + legs(1, 3) + (BEGIN,)
        self.assertEqual(last(*calls), [0])
        self.assertEqual(all_seen(*calls), all_seen(BEGIN))

    def test_a_second_time_there_is_room_again(self):
        calls = (BEGIN,) + puts(8) + legs(0, 6) + legs(1, 6) + (BEGIN,)
        self.assertEqual(run(*calls, *puts(9))[-9:], [[k] for k in range(8)] + [[-28]])
        for w in (0, 1):
            self.assertEqual(run(*calls, *legs(w, 7))[-7:], [[k] for k in range(6)] + [[-28]])

    def test_twice_one_behind_the_other(self):
        self.assertEqual(run(BEGIN, BEGIN, EVENTS), [[0], [0], [0]])


class Events(unittest.TestCase):
    def test_none(self):
        self.assertEqual(last(BEGIN, EVENTS), [0])

    def test_one_at_0_0(self):
        self.assertEqual(last(BEGIN, ("put", 0, 0), EVENTS), [1, 0, 0])

    def test_some_in_their_order(self):
        calls = (BEGIN, ("put", 3, -7), ("put", -99, 99), ("put", 3, -7), EVENTS)
        self.assertEqual(last(*calls), [3, 3, -7, -99, 99, 3, -7])

    def test_eight(self):
        wanted = [8] + [n for k in range(8) for n in (k, -k)]
        self.assertEqual(last(BEGIN, *puts(8), EVENTS), wanted)

    def test_after_a_drop(self):
        self.assertEqual(last(BEGIN, *puts(3), ("drop", 1), EVENTS), [2, 0, 0, 2, -2])

    def test_after_the_only_one_is_dropped(self):
        self.assertEqual(last(BEGIN, ("put", 5, 6), ("drop", 0), EVENTS), [0])

    def test_are_told_as_put_whatever_the_factor(self):
        self.assertEqual(last(BEGIN, ("put", 5, 6), ("move", 9, 2), EVENTS), [1, 5, 6])


if __name__ == "__main__":
    unittest.main()
