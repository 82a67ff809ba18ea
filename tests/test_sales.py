"""Point 3: sell, trim, pieces, longest, left, look, sums."""

import unittest

from tests.helper import BIGGEST, ask, behind, last, set_up

LEFTS = [("left", 0), ("left", 1), ("left", 2), ("look", 0), ("look", 1), ("look", 2), ("look", 3), ("pieces",),
         ("longest",), ("plan",), ("sums",)]


class Sell(unittest.TestCase):
    def test_the_order_is_filled_out_of_the_beginning(self):
        calls = set_up(2, [(20, [])], [(5, 30)])
        self.assertEqual(behind(calls, ("sell", 0, 0), ("left", 0), ("pieces",), ("plan",), ("sums",)),
                         [[0, 30], [13, 7, 20], [1, 0, 7, 20], [0], [1, 0, 2, 5, 30]])

    def test_one_behind_another(self):
        calls = set_up(2, [(20, [])], [(5, 30), (4, 20), (6, 10)])
        told = behind(calls, ("sell", 0, 1), ("left", 0), ("sell", 0, 1), ("left", 0), ("sell", 0, 0), ("left", 0))
        self.assertEqual(told, [[0, 20], [14, 6, 20], [0, 10], [6, 14, 20], [0, 30], [0, 20, 20]])

    def test_what_it_pays(self):
        for pays in (0, 1, 9999, 10000):
            self.assertEqual(behind(set_up(0, [(5, [])], [(5, pays)]), ("sell", 0, 0), ("sums",)),
                             [[0, pays], [1, 0, 0, 5, pays]])

    def test_just_so_many_metres_without_a_fault(self):
        for fault in (1, 5, 9999):
            for metres, told in ((fault, [0, 7]), (fault + 1, [-33])):
                calls = set_up(0, [(10000, [fault])], [(metres, 7)])
                self.assertEqual(last(*calls, ("sell", 0, 0)), told, (fault, metres))

    def test_just_so_many_metres_as_there_are(self):
        for length in (1, 5, 9999):
            for metres, told in ((length, [0, 7]), (length + 1, [-33])):
                self.assertEqual(last(*set_up(10, [(length, [])], [(metres, 7)]), ("sell", 0, 0)), told)
        self.assertEqual(behind(set_up(10, [(10000, [])], [(10000, 7)]), ("sell", 0, 0), ("left", 0)),
                         [[0, 7], [0, 10000, 10000]])

    def test_just_so_many_metres_as_are_left(self):
        for metres, told in ((8, [0, 7]), (9, [-33])):
            calls = set_up(0, [(12, [])], [(metres, 7)])
            self.assertEqual(last(*calls, ("trim", 0, 4), ("sell", 0, 0)), told)
        for metres, told in ((3, [0, 7]), (4, [-33])):
            calls = set_up(0, [(12, [7])], [(metres, 7)])
            self.assertEqual(last(*calls, ("trim", 0, 4), ("sell", 0, 0)), told)

    def test_the_first_fault_counts_whichever_was_told_first(self):
        for faults in ([3, 8], [8, 3]):
            for metres, told in ((3, [0, 7]), (4, [-33])):
                self.assertEqual(last(*set_up(0, [(12, faults)], [(metres, 7)]), ("sell", 0, 0)), told)

    def test_a_longer_piece_farther_on_does_not_help(self):
        calls = set_up(0, [(20, [2])], [(3, 7)])
        self.assertEqual(behind(calls, ("could", 0), ("sell", 0, 0), ("trim", 0, 3), ("sell", 0, 0), ("left", 0)),
                         [[1], [-33], [17], [0, 7], [14, 6, 20, 2]])

    def test_a_fault_at_the_very_beginning(self):
        calls = set_up(0, [(6, [0])], [(1, 7)])
        told = behind(calls, ("sell", 0, 0), ("trim", 0, 1), ("sell", 0, 0), ("left", 0))
        self.assertEqual(told, [[-33], [5], [0, 7], [4, 2, 6, 0]])

    def test_a_fault_at_the_beginning_of_what_is_left(self):
        calls = set_up(0, [(6, [3])], [(1, 7)])
        told = behind(calls, ("trim", 0, 3), ("sell", 0, 0), ("trim", 0, 1), ("sell", 0, 0), ("left", 0))
        self.assertEqual(told, [[3], [-33], [2], [0, 7], [1, 5, 6, 3]])

    def test_a_fault_that_was_cut_off_does_not_matter(self):
        calls = set_up(0, [(12, [1, 3])], [(8, 7)])
        self.assertEqual(behind(calls, ("trim", 0, 4), ("sell", 0, 0), ("left", 0)),
                         [[8], [0, 7], [0, 12, 12, 1, 3]])

    def test_a_fault_in_the_cut(self):
        for fault, found in ((5, [1, 0, 7, 20]), (6, [1, 0, 7, 20]), (7, [1, 0, 8, 20])):
            calls = set_up(2, [(20, [fault])], [(5, 30)])
            self.assertEqual(behind(calls, ("sell", 0, 0), ("left", 0), ("pieces",)),
                             [[0, 30], [13, 7, 20, fault], found])

    def test_the_cut_or_all_that_is_left(self):
        for length, left in ((5, 0), (6, 0), (7, 0), (8, 0), (9, 1), (10, 2)):
            calls = set_up(3, [(length, [])], [(5, 30)])
            told = behind(calls, ("sell", 0, 0), ("left", 0), ("sums",))
            self.assertEqual(told, [[0, 30], [left, length - left, length], [1, 0, 3, 5, 30]], length)

    def test_the_cut_or_all_that_is_left_behind_a_trim(self):
        for length, left in ((9, 0), (11, 0), (12, 0), (13, 1)):
            calls = set_up(3, [(length, [])], [(5, 30)]) + [("trim", 0, 4)]
            told = behind(calls, ("sell", 0, 0), ("left", 0))
            self.assertEqual(told, [[0, 30], [left, length - left, length]], length)

    def test_each_cut(self):
        for kerf in range(11):
            calls = set_up(kerf, [(100, [])], [(7, 1)])
            self.assertEqual(behind(calls, ("sell", 0, 0), ("left", 0)), [[0, 1], [93 - kerf, 7 + kerf, 100]])

    def test_a_cut_of_nothing(self):
        calls = set_up(0, [(9, [])], [(4, 1), (5, 2)])
        self.assertEqual(behind(calls, ("sell", 0, 0), ("left", 0), ("sell", 0, 0), ("left", 0)),
                         [[0, 1], [5, 4, 9], [0, 2], [0, 9, 9]])

    def test_just_as_long_as_two_orders_and_a_cut(self):
        for length, told in ((12, [0, 2]), (11, [-33])):
            calls = set_up(3, [(length, [])], [(4, 1), (5, 2)]) + [("sell", 0, 0)]
            self.assertEqual(last(*calls, ("sell", 0, 0)), told)

    def test_all_sold(self):
        calls = set_up(0, [(5, [])], [(5, 1), (1, 2)]) + [("sell", 0, 0)]
        self.assertEqual(behind(calls, ("sell", 0, 0), ("look", 0), ("sums",)), [[-33], [1, 2], [1, 1, 0, 5, 1]])

    def test_it_is_no_order_any_more(self):
        orders = [(1, 10), (2, 20), (3, 30), (4, 40)]
        for number in range(4):
            rest = orders[:number] + orders[number + 1:]
            told = behind(set_up(0, [(50, [])], orders), ("sell", 0, number), ("look", 0), ("look", 1), ("look", 2),
                          ("look", 3), ("order", 9, 90), ("order", 9, 90), ("look", 3))
            self.assertEqual(told[0], [0, orders[number][1]])
            self.assertEqual(told[1:], [list(order) for order in rest] + [[-2], [3], [-28], [9, 90]])

    def test_no_other_length_is_cut(self):
        calls = set_up(1, [(9, [8]), (9, []), (9, [4])], [(4, 1)])
        for number, lefts in ((0, [[4, 5, 9, 8], [9, 0, 9], [9, 0, 9, 4]]),
                              (1, [[9, 0, 9, 8], [4, 5, 9], [9, 0, 9, 4]]),
                              (2, [[9, 0, 9, 8], [9, 0, 9], [4, 5, 9, 4]])):
            told = behind(calls, ("sell", number, 0), ("left", 0), ("left", 1), ("left", 2))
            self.assertEqual(told, [[0, 1]] + lefts)

    def test_no_such_length_or_order(self):
        calls = set_up(0, [(9, []), (9, [0])], [(4, 1), (10, 2), (3, 3)])
        for length, order in ((2, 0), (3, 0), (BIGGEST, 0), (0, 3), (0, 4), (0, BIGGEST), (2, 3), (BIGGEST, BIGGEST)):
            self.assertEqual(last(*calls, ("sell", length, order)), [-2], (length, order))
        self.assertEqual(last(*calls, ("sell", 1, 2)), [-33])
        self.assertEqual(last(*calls, ("sell", 0, 2)), [0, 3])
        self.assertEqual(last(("begin", 0), ("sell", 0, 0)), [-2])
        self.assertEqual(last(("begin", 0), ("length", 5), ("sell", 0, 0)), [-2])
        self.assertEqual(last(("begin", 0), ("order", 5, 5), ("sell", 0, 0)), [-2])

    def test_no_such_is_answered_ahead_of_not_whole(self):
        calls = set_up(0, [(9, [0])], [(4, 1)])
        for length, order in ((0, 1), (1, 0), (1, 1)):
            self.assertEqual(last(*calls, ("sell", length, order)), [-2])
        self.assertEqual(last(*calls, ("sell", 0, 0)), [-33])

    def test_refused_changes_nothing(self):
        calls = set_up(1, [(9, [3]), (6, [])], [(4, 1), (2, 5)]) + [("trim", 0, 1)]
        before = behind(calls, *LEFTS)
        for length, order, told in ((0, 0, -33), (2, 0, -2), (0, 2, -2), (0, BIGGEST, -2)):
            self.assertEqual(behind(calls, ("sell", length, order), *LEFTS), [[told]] + before)


class Trim(unittest.TestCase):
    def test_how_much_is_left(self):
        calls = set_up(3, [(10, [])], [])
        told = behind(calls, ("trim", 0, 4), ("left", 0), ("trim", 0, 1), ("left", 0), ("trim", 0, 5), ("left", 0))
        self.assertEqual(told, [[6], [6, 4, 10], [5], [5, 5, 10], [0], [0, 10, 10]])

    def test_just_what_is_left_and_one_more(self):
        for length in (1, 2, 9, 9999, 10000):
            for metres, told in ((length - 1, [1]), (length, [0]), (length + 1, [-12]), (BIGGEST, [-12])):
                self.assertEqual(last(*set_up(0, [(length, [])], []), ("trim", 0, metres)), told, (length, metres))
        for metres, told in ((5, [1]), (6, [0]), (7, [-12]), (10, [-12]), (BIGGEST, [-12])):
            self.assertEqual(last(*set_up(0, [(10, [])], []), ("trim", 0, 4), ("trim", 0, metres)), told)

    def test_just_what_is_left_behind_a_sell(self):
        for metres, told in ((2, [1]), (3, [0]), (4, [-12])):
            calls = set_up(2, [(10, [])], [(5, 1)]) + [("sell", 0, 0)]
            self.assertEqual(last(*calls, ("trim", 0, metres)), told)

    def test_nothing(self):
        calls = set_up(5, [(10, [])], [])
        self.assertEqual(behind(calls, ("trim", 0, 0), ("left", 0), ("trim", 0, 10), ("trim", 0, 0), ("trim", 0, 1)),
                         [[10], [10, 0, 10], [0], [0], [-12]])

    def test_no_cut_is_taken_and_nothing_is_sold(self):
        calls = set_up(10, [(100, [])], [(5, 5)])
        self.assertEqual(behind(calls, ("trim", 0, 7), ("left", 0), ("sums",), ("look", 0)),
                         [[93], [93, 7, 100], [1, 1, 10, 0, 0], [5, 5]])

    def test_faults_do_not_matter(self):
        calls = set_up(0, [(10, [0, 5])], [])
        told = behind(calls, ("trim", 0, 1), ("pieces",), ("trim", 0, 4), ("pieces",), ("trim", 0, 2), ("pieces",))
        self.assertEqual(told, [[9], [2, 0, 1, 5, 0, 6, 10], [5], [1, 0, 6, 10], [3], [1, 0, 7, 10]])

    def test_no_other_length_is_cut(self):
        calls = set_up(1, [(9, [8]), (8, []), (7, [4])], [])
        self.assertEqual(behind(calls, ("trim", 1, 3), ("left", 0), ("left", 1), ("left", 2)),
                         [[5], [9, 0, 9, 8], [5, 3, 8], [7, 0, 7, 4]])

    def test_no_such_length(self):
        self.assertEqual(last(("begin", 0), ("trim", 0, 0)), [-2])
        for number in (2, 3, BIGGEST):
            for metres in (0, 5, 6, BIGGEST):
                self.assertEqual(last(*set_up(0, [(5, []), (5, [])], []), ("trim", number, metres)), [-2])

    def test_refused_changes_nothing(self):
        calls = set_up(1, [(9, [3]), (6, [])], [(4, 1), (2, 5)]) + [("trim", 0, 1)]
        before = behind(calls, *LEFTS)
        for number, metres, told in ((0, 9, -12), (1, 7, -12), (0, BIGGEST, -12), (2, 0, -2)):
            self.assertEqual(behind(calls, ("trim", number, metres), *LEFTS), [[told]] + before)


class Pieces(unittest.TestCase):
    def pieces(self, *lengths):
        return last(*set_up(4, lengths, []), ("pieces",))

    def test_as_they_lie(self):
        self.assertEqual(self.pieces(), [0])
        self.assertEqual(self.pieces((10, [])), [1, 0, 0, 10])
        self.assertEqual(self.pieces((10, [4])), [2, 0, 0, 4, 0, 5, 10])
        self.assertEqual(self.pieces((10, [6, 2])), [3, 0, 0, 2, 0, 3, 6, 0, 7, 10])
        self.assertEqual(self.pieces((5, [2]), (1, [0]), (9, [8, 4])), [4, 0, 0, 2, 0, 3, 5, 2, 0, 4, 2, 5, 8])
        self.assertEqual(self.pieces((10000, [1, 9998])), [3, 0, 0, 1, 0, 2, 9998, 0, 9999, 10000])

    def test_none_of_nothing(self):
        self.assertEqual(self.pieces((5, [0])), [1, 0, 1, 5])
        self.assertEqual(self.pieces((5, [4])), [1, 0, 0, 4])
        self.assertEqual(self.pieces((5, [2, 3])), [2, 0, 0, 2, 0, 4, 5])
        self.assertEqual(self.pieces((5, [1, 0])), [1, 0, 2, 5])
        self.assertEqual(self.pieces((5, [0, 4])), [1, 0, 1, 4])
        self.assertEqual(self.pieces((2, [0, 1])), [0])

    def test_of_what_is_left(self):
        calls = set_up(0, [(10, [3, 6]), (4, [])], [])
        found = [[4, 0, 0, 3, 0, 4, 6, 0, 7, 10, 1, 0, 4], [4, 0, 1, 3, 0, 4, 6, 0, 7, 10, 1, 0, 4],
                 [4, 0, 2, 3, 0, 4, 6, 0, 7, 10, 1, 0, 4], [3, 0, 4, 6, 0, 7, 10, 1, 0, 4],
                 [3, 0, 4, 6, 0, 7, 10, 1, 0, 4], [3, 0, 5, 6, 0, 7, 10, 1, 0, 4], [2, 0, 7, 10, 1, 0, 4],
                 [2, 0, 7, 10, 1, 0, 4], [2, 0, 8, 10, 1, 0, 4], [2, 0, 9, 10, 1, 0, 4], [1, 1, 0, 4]]
        for metres, told in enumerate(found):
            self.assertEqual(last(*calls, ("trim", 0, metres), ("pieces",)), told, metres)


class Longest(unittest.TestCase):
    def longest(self, *lengths):
        return last(*set_up(4, lengths, []), ("longest",))

    def test_the_longest(self):
        self.assertEqual(self.longest((10, [])), [10])
        self.assertEqual(self.longest((10, [4])), [5])
        self.assertEqual(self.longest((10, [6])), [6])
        self.assertEqual(self.longest((10, [4]), (7, []), (6, [])), [7])
        self.assertEqual(self.longest((3, [1]), (3, [0, 1])), [1])
        self.assertEqual(self.longest((10000, []), (1, [])), [10000])

    def test_no_pieces(self):
        self.assertEqual(self.longest(), [-33])
        self.assertEqual(self.longest((1, [0])), [-33])
        self.assertEqual(self.longest((2, [0, 1]), (1, [0])), [-33])
        self.assertEqual(last(("begin", 0), ("order", 1, 1), ("longest",)), [-33])

    def test_of_what_is_left(self):
        calls = set_up(1, [(10, [7])], [(4, 1)])
        told = behind(calls, ("longest",), ("trim", 0, 1), ("longest",), ("sell", 0, 0), ("longest",), ("trim", 0, 2),
                      ("longest",), ("trim", 0, 2), ("longest",))
        self.assertEqual(told, [[7], [9], [6], [0, 1], [2], [2], [2], [0], [-33]])
        self.assertEqual(last(*set_up(3, [(8, [])], [(5, 1)]), ("sell", 0, 0), ("longest",)), [-33])
        self.assertEqual(last(*set_up(2, [(8, [])], [(5, 1)]), ("sell", 0, 0), ("longest",)), [1])
        self.assertEqual(last(*set_up(2, [(8, [7])], [(5, 1)]), ("sell", 0, 0), ("longest",)), [-33])


class Left(unittest.TestCase):
    def test_faults_rise(self):
        for faults in ([2, 7], [7, 2]):
            self.assertEqual(last(*set_up(0, [(10, faults)], []), ("left", 0)), [10, 0, 10, 2, 7])
        self.assertEqual(last(*set_up(0, [(10, [7])], []), ("left", 0)), [10, 0, 10, 7])
        self.assertEqual(last(*set_up(0, [(10, [0])], []), ("left", 0)), [10, 0, 10, 0])

    def test_those_in_what_was_cut_off_too(self):
        for cut in range(11):
            told = last(*set_up(0, [(10, [7, 2])], []), ("trim", 0, cut), ("left", 0))
            self.assertEqual(told, [10 - cut, cut, 10, 2, 7])

    def test_each_length(self):
        calls = set_up(0, [(10, [7]), (10000, []), (1, [0])], [])
        self.assertEqual(behind(calls, ("left", 0), ("left", 1), ("left", 2)),
                         [[10, 0, 10, 7], [10000, 0, 10000], [1, 0, 1, 0]])

    def test_no_such_length(self):
        self.assertEqual(last(("begin", 0), ("left", 0)), [-2])
        calls = set_up(0, [(5, []), (5, [])], [])
        self.assertEqual(behind(calls, ("left", 1), ("left", 2), ("left", 3), ("left", BIGGEST)),
                         [[5, 0, 5], [-2], [-2], [-2]])
        calls = set_up(0, [(5, []), (5, []), (5, [])], [])
        self.assertEqual(behind(calls, ("left", 2), ("left", 3), ("left", BIGGEST)), [[5, 0, 5], [-2], [-2]])


class Look(unittest.TestCase):
    def test_each_order(self):
        calls = set_up(3, [], [(1, 0), (10000, 10000), (7, 3)])
        self.assertEqual(behind(calls, ("look", 0), ("look", 1), ("look", 2)), [[1, 0], [10000, 10000], [7, 3]])

    def test_behind_a_cancel(self):
        calls = set_up(3, [], [(1, 0), (2, 5), (7, 3)]) + [("cancel", 1)]
        self.assertEqual(behind(calls, ("look", 0), ("look", 1), ("look", 2)), [[1, 0], [7, 3], [-2]])

    def test_no_such_order(self):
        self.assertEqual(last(("begin", 0), ("look", 0)), [-2])
        calls = set_up(0, [(5, [])], [(1, 2)] * 4)
        self.assertEqual(behind(calls, ("look", 3), ("look", 4), ("look", BIGGEST)), [[1, 2], [-2], [-2]])


class Sums(unittest.TestCase):
    def test_nothing_there(self):
        for kerf in range(11):
            self.assertEqual(last(("begin", kerf), ("sums",)), [0, 0, kerf, 0, 0])

    def test_how_many(self):
        lengths = [(5, []), (6, [1]), (7, [])]
        orders = [(1, 5), (2, 6), (3, 7), (4, 8)]
        for count in range(4):
            self.assertEqual(last(*set_up(2, lengths[:count], orders), ("sums",)), [count, 4, 2, 0, 0])
        for count in range(5):
            self.assertEqual(last(*set_up(2, lengths, orders[:count]), ("sums",)), [3, count, 2, 0, 0])

    def test_behind_several_sells(self):
        calls = set_up(2, [(30, []), (10000, [])], [(5, 30), (4, 0), (9999, 10000), (6, 7)])
        told = behind(calls, ("sell", 0, 0), ("sums",), ("sell", 0, 0), ("sums",), ("sell", 0, 0), ("sums",),
                      ("sell", 1, 0), ("sums",), ("trim", 0, 1), ("sums",), ("cancel", 0), ("sums",))
        self.assertEqual(told[1::2], [[2, 3, 2, 5, 30], [2, 2, 2, 9, 30], [2, 2, 2, 9, 30], [2, 1, 2, 10008, 10030],
                                      [2, 1, 2, 10008, 10030], [2, 0, 2, 10008, 10030]])
        self.assertEqual(told[::2], [[0, 30], [0, 0], [-33], [0, 10000], [16], [0]])

    def test_an_order_that_pays_nothing(self):
        calls = set_up(0, [(5, [])], [(2, 0)])
        self.assertEqual(behind(calls, ("sell", 0, 0), ("sums",)), [[0, 0], [1, 0, 0, 2, 0]])

    def test_many_sells(self):
        calls = set_up(0, [(10000, [])] * 3, [])
        for number in range(3):
            calls += [("order", 2000, 10000), ("sell", number, 0)] * 5
        self.assertEqual(behind(calls, ("sums",), ("pieces",)), [[3, 0, 0, 30000, 150000], [0]])

    def test_behind_a_begin_that_comes_again(self):
        calls = set_up(1, [(9, [8]), (5, [])], [(4, 3), (2, 2)]) + [("sell", 0, 0), ("trim", 1, 2)]
        told = behind(calls, ("sums",), ("begin", 11), ("sums",), ("begin", 7), ("sums",), ("pieces",), ("longest",),
                      ("left", 0), ("look", 0), ("length", 9), ("left", 0), ("order", 1, 1), ("sums",), ("sell", 0, 0),
                      ("sums",))
        self.assertEqual(told, [[2, 1, 1, 4, 3], [-22], [2, 1, 1, 4, 3], [0], [0, 0, 7, 0, 0], [0], [-33], [-2], [-2],
                                [0], [9, 0, 9], [0], [1, 1, 7, 0, 0], [0, 1], [1, 0, 7, 1, 1]])

    def test_before_a_begin(self):
        # What is refused with -11 is not counted once a begin is answered 0.
        told = ask(("length", 5), ("order", 1, 1), ("sell", 0, 0), ("sums",), ("begin", 0), ("sums",))
        self.assertEqual(told, [[-11], [-11], [-11], [-11], [0], [0, 0, 0, 0, 0]])


if __name__ == "__main__":
    unittest.main()
