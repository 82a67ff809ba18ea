"""What sell and trim cut off changes what the calls of points 1 and 2 answer."""

import unittest

from tests.helper import BIGGEST, behind, last, set_up


# Both leave one length, from 6 to 20, and these orders. Only where it is trimmed can a fault lie in what was cut off.
def trimmed(kerf, faults, orders):
    return set_up(kerf, [(20, faults)], orders) + [("trim", 0, 6)]


def sold(kerf, faults, orders):
    metres = 6 - kerf
    return set_up(kerf, [(20, [])], [(metres, 1)]) + [("sell", 0, 0)] + [
        ("fault", 0, fault) for fault in faults] + [("order", wanted, pays) for wanted, pays in orders]


class BeginLengthOrderCancel(unittest.TestCase):
    def test_begin(self):
        for make in (trimmed, sold):
            told = behind(make(2, [8], [(5, 9)]), ("begin", 11), ("left", 0), ("begin", 0), ("left", 0), ("best",),
                          ("length", 20), ("left", 0), ("fault", 0, 0), ("pieces",), ("sums",))
            self.assertEqual(told, [[-22], [14, 6, 20, 8], [0], [-2], [0, 0], [0], [20, 0, 20], [1], [1, 0, 1, 20],
                                    [1, 0, 0, 0, 0]])

    def test_length(self):
        for make in (trimmed, sold):
            told = behind(make(2, [], []), ("length", 0), ("length", 7), ("left", 1), ("length", 10000), ("length", 1),
                          ("length", 10001), ("pieces",))
            self.assertEqual(told, [[-22], [1], [7, 0, 7], [2], [-28], [-22], [3, 0, 6, 20, 1, 0, 7, 2, 0, 10000]])

    def test_order(self):
        for make in (trimmed, sold):
            told = behind(make(2, [], []), ("order", 0, 0), ("order", 14, 3), ("order", 15, 4), ("plan",),
                          ("order", 1, 0), ("order", 1, 1), ("order", 1, 1), ("look", 3))
            self.assertEqual(told, [[-22], [0], [1], [2, 1, 0], [2], [3], [-28], [1, 1]])

    def test_cancel(self):
        for make in (trimmed, sold):
            told = behind(make(2, [], [(14, 3), (15, 4), (1, 1)]), ("cancel", 3), ("cancel", 0), ("look", 0),
                          ("plan",), ("cancel", 1), ("cancel", 1), ("cancel", 0), ("cancel", 0), ("left", 0))
            self.assertEqual(told, [[-2], [2], [15, 4], [2, 0, 1], [1], [-2], [0], [-2], [14, 6, 20]])


class Fault(unittest.TestCase):
    def test_the_last_that_was_cut_off_and_the_first_that_is_left(self):
        for make in (trimmed, sold):
            for metre, told in ((0, [-22]), (4, [-22]), (5, [-22]), (6, [1]), (7, [2]), (19, [1]), (20, [-22]),
                                (BIGGEST, [-22])):
                self.assertEqual(last(*make(2, [], []), ("fault", 0, metre)), told, (make, metre))

    def test_in_the_cut_behind_an_order(self):
        for kerf in (1, 5):
            for metre, told in ((6 - kerf, [-22]), (5, [-22]), (6, [1])):
                self.assertEqual(last(*sold(kerf, [], []), ("fault", 0, metre)), told)

    def test_one_that_was_cut_off_is_not_in_what_is_left(self):
        calls = trimmed(0, [5, 6], [])
        self.assertEqual(behind(calls, ("fault", 0, 5), ("fault", 0, 6), ("fault", 0, 7)), [[-22], [-17], [-28]])

    def test_the_third_where_one_was_cut_off(self):
        calls = trimmed(0, [3], [])
        told = behind(calls, ("fault", 0, 10), ("fault", 0, 12), ("fault", 0, 10), ("fault", 0, 3), ("left", 0))
        self.assertEqual(told, [[2], [-28], [-17], [-22], [14, 6, 20, 3, 10]])

    def test_the_third_where_both_were_cut_off(self):
        for faults in ([3, 5], [5, 3], [0, 1]):
            told = behind(trimmed(0, faults, []), ("fault", 0, 6), ("fault", 0, 19), ("fault", 0, 5), ("left", 0))
            self.assertEqual(told, [[-28], [-28], [-22], [14, 6, 20] + sorted(faults)])

    def test_the_third_where_the_faults_were_sold_with_the_cut(self):
        calls = set_up(4, [(20, [2, 5])], [(2, 1)]) + [("sell", 0, 0)]
        told = behind(calls, ("fault", 0, 6), ("fault", 0, 5), ("left", 0), ("pieces",))
        self.assertEqual(told, [[-28], [-22], [14, 6, 20, 2, 5], [1, 0, 6, 20]])

    def test_all_cut_off(self):
        for calls in (set_up(0, [(5, [])], []) + [("trim", 0, 5)],
                      set_up(0, [(5, [])], [(5, 1)]) + [("sell", 0, 0)],
                      set_up(9, [(5, [])], [(3, 1)]) + [("sell", 0, 0)]):
            for metre in (0, 4, 5, BIGGEST):
                self.assertEqual(behind(calls, ("fault", 0, metre), ("fault", 1, metre)), [[-22], [-2]])

    def test_how_many_pieces_there_are(self):
        calls = set_up(0, [(20, [4]), (10, [5])], []) + [("trim", 0, 6), ("trim", 1, 5)]
        told = behind(calls, ("pieces",), ("fault", 0, 6), ("fault", 1, 9), ("pieces",))
        self.assertEqual(told, [[2, 0, 6, 20, 1, 6, 10], [2], [2], [2, 0, 7, 20, 1, 6, 9]])


class Hurts(unittest.TestCase):
    def test_the_last_that_was_cut_off_and_the_first_that_is_left(self):
        for make in (trimmed, sold):
            for metre, told in ((0, [-22]), (4, [-22]), (5, [-22]), (6, [0, 9]), (7, [0, 9]), (19, [0, 9]),
                                (20, [-22]), (BIGGEST, [-22])):
                self.assertEqual(last(*make(2, [], [(14, 9)]), ("hurts", 0, metre)), told, (make, metre))

    def test_how_much(self):
        for make in (trimmed, sold):
            told = behind(make(0, [], [(13, 9)]), ("hurts", 0, 6), ("hurts", 0, 7), ("hurts", 0, 19), ("best",))
            self.assertEqual(told, [[0, 0], [0, 9], [0, 0], [0, 9]])

    def test_more(self):
        calls = set_up(5, [(20, [])], [(5, 10), (6, 20)]) + [("trim", 0, 8)]
        self.assertEqual(behind(calls, ("best",), ("hurts", 0, 13), ("hurts", 0, 14), ("hurts", 0, 15)),
                         [[0, 20], [0, -10], [0, -10], [0, 0]])

    def test_there_is_that_one(self):
        calls = trimmed(0, [5, 6], [(13, 9)])
        self.assertEqual(behind(calls, ("hurts", 0, 5), ("hurts", 0, 6), ("hurts", 0, 7), ("hurts", 0, 8)),
                         [[-22], [0, 0], [0, 9], [0, 9]])

    def test_where_both_faults_were_cut_off(self):
        calls = trimmed(0, [0, 5], [(14, 9), (7, 4)])
        self.assertEqual(behind(calls, ("hurts", 0, 6), ("hurts", 0, 12), ("hurts", 0, 13), ("left", 0)),
                         [[0, 5], [0, 5], [0, 5], [14, 6, 20, 0, 5]])

    def test_all_cut_off(self):
        calls = set_up(0, [(5, []), (3, [])], [(3, 7)]) + [("trim", 0, 5)]
        told = behind(calls, ("hurts", 0, 0), ("hurts", 0, 4), ("hurts", 0, 5), ("hurts", 1, 0), ("hurts", 2, 0))
        self.assertEqual(told, [[-22], [-22], [-22], [0, 7], [-2]])


class Plans(unittest.TestCase):
    ASKED = [("best",), ("plan",), ("fills",), ("worth", 0), ("could", 0), ("together", 1)]

    def test_just_what_is_left(self):
        for make in (trimmed, sold):
            for kerf in (0, 2):
                told = behind(make(kerf, [], [(14, 9)]), *self.ASKED)
                self.assertEqual(told, [[0, 9], [1, 1], [1, 0], [0, 9], [1], [1]])
                told = behind(make(kerf, [], [(15, 9)]), *self.ASKED)
                self.assertEqual(told, [[0, 0], [1, 0], [0], [0, 0], [0], [0]])

    def test_between_the_faults_that_are_left(self):
        for make in (trimmed, sold):
            calls = make(0, [10, 16], [(5, 1), (4, 2), (3, 4), (6, 8)])
            told = behind(calls, ("best",), ("plan",), ("fills",), ("pieces",), ("together", 7), ("could", 3))
            self.assertEqual(told, [[0, 7], [4, 2, 1, 3, 0], [3, 0, 1, 2], [3, 0, 6, 10, 0, 11, 16, 0, 17, 20], [1],
                                    [0]])

    def test_faults_that_were_cut_off(self):
        calls = trimmed(0, [2, 5], [(14, 9), (2, 1)])
        self.assertEqual(behind(calls, *self.ASKED), [[0, 9], [2, 1, 0], [1, 0], [0, 8], [1], [1]])
        self.assertEqual(behind(trimmed(0, [5, 9], [(10, 9), (3, 1)]), *self.ASKED),
                         [[0, 10], [2, 2, 1], [2, 0, 1], [0, 9], [1], [1]])

    def test_a_cut_between_two_out_of_what_is_left(self):
        for metres, told in ((8, [[0, 3], [2, 1, 1], [1]]), (9, [[0, 2], [2, 0, 1], [0]])):
            calls = trimmed(1, [], [(5, 1), (metres, 2)])
            self.assertEqual(behind(calls, ("best",), ("plan",), ("together", 3)), told)

    def test_pieces_are_numbered_anew(self):
        calls = set_up(0, [(9, [4]), (9, [])], [(9, 3), (4, 2), (1, 1)])
        told = behind(calls, ("plan",), ("trim", 0, 5), ("plan",), ("trim", 0, 4), ("plan",), ("sell", 1, 1), ("plan",),
                      ("pieces",))
        self.assertEqual(told, [[3, 3, 1, 2], [4], [3, 2, 1, 0], [0], [3, 1, 0, 0], [0, 2], [2, 0, 1],
                                [1, 1, 4, 9]])

    def test_orders_are_numbered_anew(self):
        calls = set_up(0, [(9, []), (3, [])], [(9, 5), (3, 2), (4, 3)]) + [("sell", 1, 1)]
        told = behind(calls, ("plan",), ("worth", 0), ("worth", 1), ("worth", 2), ("together", 3), ("together", 4),
                      ("cancel", 2), ("cancel", 0), ("plan",))
        self.assertEqual(told, [[2, 1, 0], [0, 2], [0, 0], [-2], [0], [-22], [-2], [1], [1, 1]])

    def test_lengths_keep_their_numbers_and_count(self):
        calls = set_up(0, [(5, []), (6, []), (7, [])], [(5, 1)]) + [("sell", 0, 0), ("trim", 1, 6)]
        told = behind(calls, ("length", 1), ("left", 0), ("left", 1), ("left", 2), ("pieces",))
        self.assertEqual(told, [[-28], [0, 5, 5], [0, 6, 6], [7, 0, 7], [1, 2, 0, 7]])

    def test_worth_of_what_is_left(self):
        calls = set_up(0, [(10, [])], [(10, 9), (5, 7), (5, 4)])
        told = behind(calls, ("worth", 0), ("worth", 1), ("trim", 0, 1), ("worth", 0), ("worth", 1), ("worth", 2))
        self.assertEqual(told, [[0, 0], [0, 2], [9], [0, 0], [0, 3], [0, 0]])


if __name__ == "__main__":
    unittest.main()
