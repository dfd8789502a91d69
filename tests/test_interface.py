"""The list that is handed in, the list that is given back, and what comes before a begin."""

import unittest

from movingclocks.clocks import answers
from tests.helper import BEGIN, COUNTS, GREATEST, GREATEST_PLAIN, LEAST, last, row, run


class BeforeABegin(unittest.TestCase):
    def test_every_other_call(self):
        for name in COUNTS:
            if name == "begin":
                continue
            for value in (0, 1, 10, GREATEST):
                self.assertEqual(run((name,) + (value,) * COUNTS[name], BEGIN), [[-11], [0]])

    def test_with_arguments_that_would_be_refused(self):
        self.assertEqual(run(("put", LEAST, GREATEST), ("put", 100, 0)), [[-11], [-11]])
        for name in ("drop", "move", "more", "leg", "unleg", "tells", "apart", "square"):
            self.assertEqual(run((name,) + (GREATEST_PLAIN,) * COUNTS[name]), [[-11]])

    def test_nothing_of_them_is_kept(self):
        calls = (("put", 1, 1), ("move", 2, 1), ("more", 2, 1), ("leg", 0, 1, 1, 1), ("leg", 1, 1, 1, 1), BEGIN)
        looks = (("events",), ("factor",), ("unleg", 0), ("unleg", 1))
        self.assertEqual(run(*calls, *looks), [[-11]] * 5 + [[0], [0], [0, 1, 1], [-6], [-6]])


class GivenBack(unittest.TestCase):
    def test_count_by_count(self):
        handed = [
            8, 0, 7, 1, 3, 5, 1, 100, 0, 1, -1, 0, 7, 3, 4, 2, 8, 9, 4, 3, 4, 10, 0, 11, 0, 1, 12, 0, 1, 12, 0, 2,
            5, 1, 9, 1, 99, 6, 1, 6, 1, 2, 0, 7,
        ]
        given_back = [
            1, -11, 1, 0, 1, 0, 1, 0, 1, -22, 1, 1, 5, 2, 3, 5, -1, 0, 1, 0, 3, 0, 2, 1, 3, 0, 3, 5, 3, 0, 3, 2,
            5, 0, 7, 6, 25, 6, 5, 0, -9, 4, -15, 4, 2, 0, -9, 1, -2, 1, 0, 1, 0, 1, -6, 1, 1, 3, 1, -1, 0,
        ]
        self.assertEqual(answers(handed), given_back)

    def test_is_a_list_of_whole_numbers(self):
        given_back = answers(row(BEGIN, ("put", 1, 0), ("tells", 0), ("square", 0, 0), ("speed",), ("drop", 0)))
        self.assertIs(type(given_back), list)
        self.assertEqual({type(n) for n in given_back}, {int})

    def test_of_256_calls(self):
        answered = run(BEGIN, *[("leg", k % 2, 1, 1, 1) for k in range(255)])
        self.assertEqual(answered, [[0]] + [[k // 2] for k in range(12)] + [[-28]] * 243)

    def test_of_256_begins(self):
        self.assertEqual(answers([0] * 256), [1, 0] * 256)


class HandedIn(unittest.TestCase):
    def test_stays_as_it_was(self):
        handed = row(BEGIN, ("put", 3, 4), ("move", 6, 2), ("more", 5, 5), ("leg", 0, 2, 4, 6), ("tells", 0),
                     ("drop", 0), ("drop", 0), ("unleg", 0), ("events",))
        kept = list(handed)
        answers(handed)
        self.assertEqual(handed, kept)

    def test_is_not_changed_for_a_while_either(self):
        class Watched(list):
            def refuse(self, *given, **named):
                raise AssertionError("the list that is handed in is changed")

            __setitem__ = __delitem__ = __iadd__ = __imul__ = refuse
            append = clear = extend = insert = pop = remove = reverse = sort = refuse

        handed = row(BEGIN, ("put", 3, 4), ("more", 5, 2), ("leg", 0, 2, 4, 6), ("tells", 0), ("drop", 0))
        self.assertEqual(answers(Watched(handed)), answers(handed))


class OneBehindTheOther(unittest.TestCase):
    def test_nothing_is_kept(self):
        calls = (BEGIN, ("put", 3, 4), ("move", 3, 1), ("leg", 0, 1, 1, 1), ("leg", 1, 1, 1, 1), ("events",))
        first = run(*calls)
        self.assertEqual(last(("events",)), [-11])
        self.assertEqual(run(BEGIN, ("events",), ("factor",), ("unleg", 0), ("unleg", 1)),
                         [[0], [0], [0, 1, 1], [-6], [-6]])
        self.assertEqual(run(*calls), first)

    def test_what_is_given_back_is_the_callers_own(self):
        handed = row(BEGIN, ("put", 3, 4), ("events",))
        answers(handed).clear()
        self.assertEqual(answers(handed), [1, 0, 1, 0, 3, 1, 3, 4])


if __name__ == "__main__":
    unittest.main()
