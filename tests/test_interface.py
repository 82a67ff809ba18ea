"""How calls and answers lie in their lists, and that nothing is changed or kept."""

import random
import unittest

from cutorders.cable import answers
from tests.helper import BIGGEST, ask, set_up, some_calls, written

LINE = [0, 5, 1, 12, 1, 4, 2, 1, 0, 3, 5, 10, 3, 6, 20, 3, 9, 1, 4, 2, 5, 6, 7, 8, 0, 9, 0, 5, 9, 0, 12, 0, 11, 5]
TOLD = [1, 0, 1, 0, 1, 1, 1, 2, 1, 0, 1, 1, 1, 2, 1, 2, 2, 0, 20, 3, 2, 0, 1, 2, 1, 1, 2, 0, 0, 2, 0, -10, 1, -22,
        1, -22, 2, 0, 20]
# Calls 10 to 18, each answered and those that can be refused too.
SALES = [0, 2, 1, 20, 1, 4, 2, 0, 9, 3, 5, 30, 3, 4, 7, 10, 0, 10, 2, 11, 3, 11, 4, 12, 0, 0, 12, 0, 0, 12, 1, 1, 13, 0,
         3, 13, 0, 11, 14, 15, 16, 0, 16, 2, 17, 0, 17, 1, 18, 13, 0, 10, 13, 1, 4, 15, 14, 18]
SOLD = [1, 0, 1, 0, 1, 1, 1, 3, 1, 0, 1, 1, 1, 1, 1, -2, 1, 1, 1, -22, 2, 0, 30, 1, -33, 1, -2, 1, 10, 1, -12, 7, 2, 0,
        10, 20, 1, 0, 4, 1, 10, 4, 10, 10, 20, 9, 1, -2, 2, 4, 7, 1, -2, 5, 2, 1, 2, 5, 30, 1, 0, 1, 0, 1, -33, 1, 0, 5,
        2, 1, 2, 5, 30]


class Unchangeable(list):
    """A list that fails when it is changed, be it for a while."""

    def refuse(self, *given):
        raise AssertionError("the list that was handed in is changed")

    append = extend = insert = pop = remove = clear = sort = reverse = refuse
    __setitem__ = __delitem__ = __iadd__ = __imul__ = refuse


class Lists(unittest.TestCase):
    def test_counts_ahead_of_answers(self):
        self.assertEqual(answers(list(LINE)), TOLD)
        self.assertEqual(answers(list(SALES)), SOLD)

    def test_one_call(self):
        self.assertEqual(answers([0, 0]), [1, 0])
        self.assertEqual(answers([0, 11]), [1, -22])
        self.assertEqual(answers([5]), [1, -11])
        self.assertEqual(answers([9, BIGGEST, BIGGEST]), [1, -11])

    def test_each_call_takes_its_own_numbers(self):
        calls = [("length", 0), ("fault", 0, 0), ("order", 0, 0), ("cancel", 0), ("best",), ("plan",), ("fills",),
                 ("worth", 0), ("hurts", 0, 0), ("could", 0), ("together", 0), ("sell", 0, 0), ("trim", 0, 0),
                 ("pieces",), ("longest",), ("left", 0), ("look", 0), ("sums",)]
        for call in calls:
            self.assertEqual(answers(written([call, ("begin", 10)])), [1, -11, 1, 0], call)

    def test_whole_numbers_alone(self):
        for line in (LINE, SALES):
            told = answers(list(line))
            self.assertIs(type(told), list)
            for number in told:
                self.assertIs(type(number), int)

    def test_eighty_calls(self):
        calls = set_up(0, [(10000, [2500, 5000])] * 3, [(1, 1), (1, 1), (1, 1), (10000, 1)])
        asked = [("plan",), ("hurts", 0, 7500), ("worth", 3), ("fills",)] * 16
        line = calls + asked + [("begin", 0)] * (80 - len(calls) - len(asked))
        told = ask(*line)
        self.assertEqual(len(told), 80)
        self.assertEqual(told[len(calls):len(calls) + 4], [[4, 1, 1, 1, 0], [0, 0], [0, 0], [3, 0, 1, 2]])
        self.assertEqual(told[-1], [0])


class NothingKept(unittest.TestCase):
    def test_what_is_handed_in_stays(self):
        for handed, told in ((LINE, TOLD), (SALES, SOLD)):
            line = Unchangeable(handed)
            self.assertEqual(answers(line), told)
            self.assertEqual(line, handed)

    def test_a_second_time(self):
        for handed, told in ((LINE, TOLD), (SALES, SOLD)):
            line = list(handed)
            first = answers(line)
            first.append(7)
            self.assertEqual(answers(line), told)
            self.assertEqual(line, handed)

    def test_each_time_is_new(self):
        source = random.Random(5)
        for turn in range(50):
            line = written(some_calls(source))
            before = list(line)
            told = answers(line)
            self.assertEqual(answers([5, 1, 5, 6]), [1, -11, 1, -11, 1, -11])
            self.assertEqual(answers([0, 0, 6, 8, 0, 18]), [1, 0, 1, 0, 1, -2, 5, 0, 0, 0, 0, 0])
            self.assertEqual(answers(line), told)
            self.assertEqual(line, before)


if __name__ == "__main__":
    unittest.main()
