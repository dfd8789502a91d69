"""The list that is handed in, the list that is given back, and what comes before a begin."""

import unittest

from movingclocks.clocks import answers
from tests.helper import BEGIN, COUNTS, GREATEST, GREATEST_PLAIN, LEAST, NAMES, all_seen, last, row, run


class BeforeABegin(unittest.TestCase):
    def test_every_other_call(self):
        for name in COUNTS:
            if name == "begin":
                continue
            for value in (0, 1, 10, GREATEST):
                self.assertEqual(run((name,) + (value,) * COUNTS[name], BEGIN), [[-11], [0]])

    def test_with_arguments_that_would_be_refused(self):
        self.assertEqual(run(("put", LEAST, GREATEST), ("put", 100, 0)), [[-11], [-11]])
        for name in NAMES[2:]:
            self.assertEqual(run((name,) + (GREATEST_PLAIN,) * COUNTS[name]), [[-11]])

    def test_nothing_of_them_is_kept(self):
        calls = (("put", 1, 1), ("move", 2, 1), ("more", 2, 1), ("leg", 0, 1, 1, 1), ("leg", 1, 1, 1, 1), BEGIN)
        looks = (("events",), ("factor",), ("unleg", 0), ("unleg", 1), ("back",), ("state",))
        self.assertEqual(run(*calls, *looks), [[-11]] * 5 + [[0], [0], [0, 1, 1], [-6], [-6], [-6], [0, 0, 0, 0]])

    def test_all_in_one_line(self):
        calls = [(name,) + (1,) * COUNTS[name] for name in NAMES[1:]]
        self.assertEqual(run(*calls, *calls, BEGIN, ("state",)), [[-11]] * 48 + [[0], [0, 0, 0, 0]])


class TheEndsOfEachKind(unittest.TestCase):
    """Each argument by itself at its ends, the others right; by what is refused is in the promise."""

    RIGHT = {
        "put": (0, 0), "drop": (1,), "move": (1, 1), "more": (1, 1), "leg": (1, 1, 1, 1), "unleg": (1,), "tells": (1,),
        "apart": (1, 1), "square": (1, 1), "sooner": (1, 1), "ever": (1, 1), "sameat": (1, 1, 1, 1),
        "faster": (1, 1, 1, 1), "way": (1,), "end": (1,), "shows": (1,), "straight": (1,),
    }
    EVENT_OR_WAY = {"put": 0, "move": 0, "more": 0, "faster": 0, "leg": 1, "sameat": 2}
    BEFORE = (BEGIN, ("put", 0, 0), ("put", 1, 1), ("leg", 0, 1, 1, 1), ("leg", 1, 1, 1, 1))

    def test_at_the_greatest(self):
        for name, right in self.RIGHT.items():
            self.assertGreaterEqual(last(*self.BEFORE, (name, *right))[0], 0, name)
            greatest = GREATEST if name == "put" else GREATEST_PLAIN
            for at in range(len(right)):
                wanted = -2 if at < self.EVENT_OR_WAY.get(name, len(right)) else -22
                given = right[:at] + (greatest,) + right[at + 1:]
                self.assertEqual(last(*self.BEFORE, (name, *given)), [wanted], (name, given))
                self.assertEqual(all_seen(*self.BEFORE, (name, *given)), all_seen(*self.BEFORE), (name, given))

    def test_at_the_least(self):
        for name, right in self.RIGHT.items():
            least = LEAST if name == "put" else 0
            for at in range(len(right)):
                given = right[:at] + (least,) + right[at + 1:]
                answered = last(*self.BEFORE, (name, *given))
                if at < self.EVENT_OR_WAY.get(name, len(right)):
                    self.assertGreaterEqual(answered[0], 0, (name, given))
                else:
                    self.assertEqual(answered, [-22], (name, given))


class GivenBack(unittest.TestCase):
    def test_count_by_count(self):
        handed = [
            8, 0, 7, 1, 3, 5, 1, 100, 0, 1, -1, 0, 7, 3, 4, 2, 8, 9, 4, 3, 4, 10, 0, 11, 0, 1, 12, 0, 1, 12, 0, 2,
            5, 1, 9, 1, 99, 6, 1, 6, 1, 2, 0, 7,
        ]
        given_back = [
            1, -11, 1, 0, 1, 0, 1, 0, 1, -22, 1, 1, 5, 2, 3, 5, -1, 0, 1, 0, 3, 0, 2, 1, 3, 0, 3, 5, 3, 0, 3, 2,
            5, 0, 7, 6, 25, 6, 5, 0, -9, 4, -15, 4, 2, 0, -9, 1, -2, 1, 0, 1, 0, 1, -6, 1, 1, 3, 1, -1, 0,
        ]
        self.assertEqual(answers(handed), given_back)

    def test_count_by_count_of_the_calls_13_to_24(self):
        handed = [
            24, 0, 1, 0, 0, 1, 3, 5, 13, 0, 1, 14, 0, 1, 15, 0, 1, 4, 2, 15, 0, 2, 0, 0, 15, 0, 1, 0, 1, 16, 2, 1, 3, 1,
            16, 1, 1, 1, 10, 5, 0, 4, 2, 4, 5, 1, 3, 2, 1, 17, 0, 18, 1, 19, 0, 20, 1, 18, 2, 21, 22, 23, 22, 23, 21, 24,
            23, 23, 23, 24,
        ]
        given_back = [
            1, -11, 1, 0, 1, 0, 1, 1, 1, 0, 1, 3, 1, 1, 1, -2, 1, -22, 5, 0, 35, 37, 5, 13,
            1, -22, 1, 0, 1, 0, 4, 1, 2, 1, 4, 5, 0, 13, 12, 5, 12, 1, 4, 3, 0, 1, 1, 1, -2, 1, -33, 1, 2, 1, 3, 1, 2,
            1, 2, 1, 1, 4, 2, 0, 0, 2,
            1, 1, 1, 0, 1, -6, 4, 0, 0, 0, 0,
        ]
        self.assertEqual(answers(handed), given_back)

    def test_is_a_list_of_whole_numbers(self):
        calls = [(name,) + (1,) * COUNTS[name] for name in NAMES]
        calls = [BEGIN, ("put", 1, 0), ("put", 1, 0), ("leg", 1, 1, 1, 1)] + calls[6:] + calls[1:6] + calls
        given_back = answers(row(*calls))
        self.assertIs(type(given_back), list)
        self.assertEqual({type(n) for n in given_back}, {int})

    def test_how_many_numbers_each_call_answers(self):
        before = (BEGIN, ("put", 1, 0), ("put", 2, 9), ("put", 3, 3), ("leg", 1, 3, 2, 1), ("leg", 1, 1, 1, 1))
        counts = {
            "more": 3, "events": 7, "factor": 3, "speed": 3, "tells": 5, "apart": 5, "square": 2, "faster": 5, "way": 7,
            "end": 5, "straight": 3, "state": 4,
        }
        for name in NAMES:
            answered = last(*before, (name,) + (1,) * COUNTS[name])
            self.assertEqual(len(answered), counts.get(name, 1), name)

    def test_of_256_calls(self):
        answered = run(BEGIN, *[("leg", k % 2, 1, 1, 1) for k in range(255)])
        self.assertEqual(answered, [[0]] + [[k // 2] for k in range(12)] + [[-28]] * 243)

    def test_of_256_begins(self):
        self.assertEqual(answers([0] * 256), [1, 0] * 256)


class HandedIn(unittest.TestCase):
    def test_stays_as_it_was(self):
        handed = row(BEGIN, ("put", 3, 4), ("move", 6, 2), ("more", 5, 5), ("leg", 0, 2, 4, 6), ("tells", 0),
                     ("drop", 0), ("drop", 0), ("unleg", 0), ("events",), ("back",), ("sameat", 0, 0, 4, 2),
                     ("faster", 2, 4, 6, 8), ("way", 0), ("end", 0), ("straight", 0), ("older",), ("state",))
        kept = list(handed)
        answers(handed)
        self.assertEqual(handed, kept)

    def test_is_not_changed_for_a_while_either(self):
        class Watched(list):
            def refuse(self, *given, **named):
                raise AssertionError("the list that is handed in is changed")

            __setitem__ = __delitem__ = __iadd__ = __imul__ = refuse
            append = clear = extend = insert = pop = remove = reverse = sort = refuse

        handed = row(BEGIN, ("put", 3, 4), ("more", 5, 2), ("leg", 0, 2, 4, 6), ("tells", 0), ("drop", 0), ("back",),
                     ("sameat", 0, 0, 4, 2), ("faster", 2, 4, 6, 8), ("way", 0), ("end", 0), ("straight", 0), ("meet",))
        self.assertEqual(answers(Watched(handed)), answers(handed))


class OneBehindTheOther(unittest.TestCase):
    def test_nothing_is_kept(self):
        calls = (BEGIN, ("put", 3, 4), ("move", 3, 1), ("leg", 0, 1, 1, 1), ("leg", 1, 1, 1, 1), ("events",))
        first = run(*calls)
        self.assertEqual(last(("events",)), [-11])
        self.assertEqual(last(("back",)), [-11])
        self.assertEqual(run(BEGIN, ("events",), ("factor",), ("unleg", 0), ("unleg", 1), ("back",)),
                         [[0], [0], [0, 1, 1], [-6], [-6], [-6]])
        self.assertEqual(run(*calls), first)

    def test_what_is_given_back_is_the_callers_own(self):
        handed = row(BEGIN, ("put", 3, 4), ("events",))
        answers(handed).clear()
        self.assertEqual(answers(handed), [1, 0, 1, 0, 3, 1, 3, 4])


if __name__ == "__main__":
    unittest.main()
