"""Point 2: best, plan, fills, worth, hurts, could, together."""

import random
import unittest

from tests.helper import BIGGEST, ask, last, set_up, slow_best, slow_plan, some_works


class Best(unittest.TestCase):
    def check(self, kerf, lengths, orders, brought, plan):
        told = ask(*set_up(kerf, lengths, orders), ("best",), ("plan",), ("fills",))[-3:]
        filled = [o for o, place in enumerate(plan) if place]
        self.assertEqual(told, [[0, brought], [len(orders)] + plan, [len(filled)] + filled])

    def test_nothing_there(self):
        self.check(0, [], [], 0, [])
        self.check(10, [(5, [])], [], 0, [])

    def test_one_order(self):
        self.check(0, [(5, [])], [(5, 7)], 7, [1])
        self.check(10, [(5, [])], [(5, 7)], 7, [1])
        self.check(0, [(5, [])], [(6, 7)], 0, [0])

    def test_the_dearest_is_not_always_filled(self):
        self.check(0, [(10, [])], [(6, 10), (5, 7), (5, 7)], 14, [0, 1, 1])
        self.check(0, [(10, [])], [(6, 15), (5, 7), (5, 7)], 15, [1, 0, 0])

    def test_the_most_orders_are_not_always_filled(self):
        self.check(0, [(9, [])], [(3, 1), (3, 1), (3, 1), (9, 4)], 4, [0, 0, 0, 1])

    def test_pieces_are_numbered_length_by_length(self):
        lengths = [(5, [2]), (9, [8, 4]), (7, [])]
        self.check(0, lengths, [(7, 1), (4, 1), (3, 1), (2, 1)], 4, [5, 3, 4, 1])
        self.check(0, lengths, [(2, 1), (2, 1), (3, 1), (7, 1)], 4, [1, 2, 3, 5])

    def test_no_order_goes_over_a_fault(self):
        self.check(0, [(9, [4])], [(5, 9)], 0, [0])
        self.check(0, [(9, [5])], [(5, 9)], 9, [1])
        self.check(0, [(9, [3])], [(5, 9)], 9, [2])

    def test_largest_numbers(self):
        self.check(10, [(10000, []), (10000, []), (10000, [])], [(10000, 10000)] * 4, 30000, [1, 2, 3, 0])
        self.check(10, [(10000, [])] * 3, [(3330, 10000), (3330, 10000), (3320, 10000), (10000, 10000)], 40000,
                   [1, 1, 1, 2])
        self.check(10, [(10000, [])], [(3330, 1), (3330, 1), (3321, 1)], 2, [1, 1, 0])

    def test_just_as_long_as_two_orders_and_a_cut(self):
        self.check(3, [(12, [])], [(4, 1), (5, 1)], 2, [1, 1])
        self.check(3, [(11, [])], [(4, 1), (5, 1)], 1, [1, 0])
        self.check(3, [(15, [12])], [(4, 1), (5, 1)], 2, [1, 1])
        self.check(3, [(15, [11])], [(4, 1), (5, 1), (3, 1)], 2, [1, 0, 1])

    def test_a_cut_between_each_two(self):
        self.check(2, [(10, [])], [(2, 1), (2, 1), (2, 1)], 3, [1, 1, 1])
        self.check(2, [(9, [])], [(2, 1), (2, 1), (2, 1)], 2, [1, 1, 0])
        self.check(1, [(7, [])], [(1, 1)] * 4, 4, [1, 1, 1, 1])
        self.check(1, [(6, [])], [(1, 1)] * 4, 3, [1, 1, 1, 0])

    def test_a_fault_at_the_very_beginning(self):
        self.check(0, [(6, [0])], [(5, 2)], 2, [1])
        self.check(0, [(6, [0])], [(6, 2)], 0, [0])
        self.check(0, [(6, [0]), (4, [])], [(4, 2), (5, 2)], 4, [2, 1])

    def test_a_fault_at_the_very_end(self):
        self.check(0, [(6, [5]), (4, [])], [(4, 2), (5, 2)], 4, [2, 1])

    def test_two_faults_side_by_side(self):
        self.check(0, [(8, [3, 4])], [(3, 1), (3, 1), (1, 1)], 2, [1, 2, 0])
        self.check(0, [(8, [4, 3])], [(3, 1), (3, 1), (1, 1)], 2, [1, 2, 0])
        self.check(0, [(8, [0, 1])], [(6, 1), (7, 1)], 1, [1, 0])

    def test_an_order_that_pays_nothing(self):
        self.check(0, [(5, [])], [(5, 0)], 0, [1])
        self.check(0, [(5, [])], [(2, 0), (3, 4)], 4, [1, 1])
        self.check(0, [(5, [])], [(3, 0), (3, 4)], 4, [0, 1])
        self.check(0, [(5, []), (2, [])], [(2, 0), (5, 4)], 4, [2, 1])

    def test_a_cut_of_nothing(self):
        self.check(0, [(10, [])], [(1, 1), (2, 1), (3, 1), (4, 1)], 4, [1, 1, 1, 1])
        self.check(0, [(9, [])], [(1, 1), (2, 1), (3, 1), (4, 1)], 3, [1, 1, 1, 0])

    def test_no_pieces_and_orders(self):
        orders = [(1, 5), (2, 0)]
        self.check(0, [], orders, 0, [0, 0])
        self.check(0, [(1, [0])], orders, 0, [0, 0])
        self.check(10, [(2, [0, 1]), (1, [0])], orders, 0, [0, 0])

    def test_of_like_plans_the_first(self):
        self.check(0, [(5, []), (5, [])], [(5, 3)], 3, [1])
        self.check(0, [(5, [])], [(5, 3), (5, 3)], 3, [1, 0])
        self.check(0, [(5, [])], [(5, 3), (2, 1), (3, 2)], 3, [1, 0, 0])
        self.check(0, [(5, [])], [(2, 1), (5, 3), (3, 2)], 3, [1, 0, 1])
        self.check(0, [(4, []), (6, [])], [(4, 1), (6, 1)], 2, [1, 2])
        self.check(0, [(6, []), (4, [])], [(4, 1), (6, 1)], 2, [2, 1])

    def test_the_lesser_piece_counts_ahead_of_a_later_order(self):
        # Order 0 out of piece 1 would leave piece 0 to order 1, which pays as much as order 2.
        self.check(0, [(5, []), (4, [])], [(4, 9), (5, 2), (1, 2)], 11, [1, 0, 1])

    def test_asking_changes_nothing(self):
        calls = set_up(1, [(9, [4]), (6, [])], [(4, 3), (4, 2), (6, 2)])
        asked = [("best",), ("plan",), ("fills",), ("worth", 1), ("hurts", 0, 0), ("hurts", 1, 5)]
        told = ask(*calls, *asked, *asked)[len(calls):]
        self.assertEqual(told[:6], told[6:])


class Worth(unittest.TestCase):
    def worths(self, kerf, lengths, orders):
        calls = [("worth", o) for o in range(len(orders))]
        return ask(*set_up(kerf, lengths, orders), *calls)[-len(orders):]

    def test_among_the_others(self):
        self.assertEqual(self.worths(0, [(5, [])], [(5, 7), (5, 4)]), [[0, 3], [0, 0]])
        self.assertEqual(self.worths(0, [(5, [])], [(5, 7), (5, 7)]), [[0, 0], [0, 0]])
        self.assertEqual(self.worths(0, [(10, [])], [(5, 7), (5, 4), (5, 1)]), [[0, 6], [0, 3], [0, 0]])
        self.assertEqual(self.worths(0, [(10, [])], [(10, 9), (5, 7), (5, 4)]), [[0, 0], [0, 2], [0, 2]])

    def test_alone(self):
        self.assertEqual(self.worths(10, [(5, [])], [(5, 10000)]), [[0, 10000]])
        self.assertEqual(self.worths(0, [(5, [])], [(5, 0)]), [[0, 0]])
        self.assertEqual(self.worths(0, [(5, [])], [(6, 9)]), [[0, 0]])

    def test_no_such_order(self):
        self.assertEqual(last(("begin", 0), ("length", 5), ("worth", 0)), [-2])
        for number in (2, 3, BIGGEST):
            self.assertEqual(last(*set_up(0, [(5, [])], [(1, 1), (1, 1)]), ("worth", number)), [-2])
        five = set_up(0, [(5, [])], [(1, 1)] * 4) + [("order", 1, 1), ("worth", 3), ("worth", 4)]
        self.assertEqual(ask(*five)[-3:], [[-28], [0, 1], [-2]])


class Hurts(unittest.TestCase):
    def hurts(self, kerf, lengths, orders, number, metre):
        return last(*set_up(kerf, lengths, orders), ("hurts", number, metre))

    def test_less(self):
        self.assertEqual(self.hurts(0, [(5, [])], [(5, 8)], 0, 2), [0, 8])
        self.assertEqual(self.hurts(0, [(5, [])], [(5, 8), (4, 6)], 0, 4), [0, 2])
        self.assertEqual(self.hurts(0, [(5, []), (6, [])], [(6, 8), (4, 6)], 1, 0), [0, 8])
        self.assertEqual(self.hurts(0, [(1, [])], [(1, 8)], 0, 0), [0, 8])

    def test_nothing(self):
        self.assertEqual(self.hurts(0, [(5, [])], [(4, 8)], 0, 0), [0, 0])
        self.assertEqual(self.hurts(0, [(5, [])], [], 0, 0), [0, 0])
        self.assertEqual(self.hurts(0, [(5, []), (5, [])], [(5, 8)], 0, 2), [0, 0])

    def test_there_is_that_one(self):
        orders = [(4, 3), (5, 4)]
        for metre in (0, 4, 9):
            self.assertEqual(self.hurts(5, [(10, [metre])], orders, 0, metre), [0, 0])
        for faults in ([4, 9], [9, 4], [4, 5], [0, 1]):
            for metre in faults:
                self.assertEqual(self.hurts(0, [(10, faults)], orders, 0, metre), [0, 0])

    def test_more(self):
        # A fault takes one metre where a cut takes five.
        self.assertEqual(self.hurts(5, [(12, [])], [(5, 10), (6, 20)], 0, 5), [0, -10])
        self.assertEqual(self.hurts(2, [(3, [])], [(1, 3), (1, 4)], 0, 1), [0, -3])
        self.assertEqual(self.hurts(10, [(10000, [])], [(5000, 10000), (4999, 10000)], 0, 5000), [0, -10000])
        self.assertEqual(self.hurts(1, [(3, [])], [(1, 3), (1, 4)], 0, 1), [0, 0])

    def test_a_third_fault(self):
        self.assertEqual(self.hurts(0, [(11, [3, 7])], [(3, 1), (3, 2), (3, 4)], 0, 5), [0, 1])
        self.assertEqual(self.hurts(10, [(11, [1, 3])], [(1, 1), (1, 2), (3, 4), (3, 8)], 0, 7), [0, -4])

    def test_no_such_length(self):
        self.assertEqual(last(("begin", 0), ("hurts", 0, 0)), [-2])
        for number in (1, 2, 3, BIGGEST):
            for metre in (0, 5, BIGGEST):
                self.assertEqual(self.hurts(0, [(5, [])], [(5, 1)], number, metre), [-2])

    def test_not_in_the_length(self):
        lengths = [(5, []), (7, [])]
        for number, metre, told in ((0, 4, [0, 0]), (0, 5, [-22]), (0, 6, [-22]), (0, BIGGEST, [-22]), (1, 5, [0, 1]),
                                    (1, 6, [0, 1]), (1, 7, [-22])):
            self.assertEqual(self.hurts(0, lengths, [(7, 1)], number, metre), told)

    def test_the_fault_is_not_kept(self):
        calls = set_up(0, [(5, [])], [(5, 8)])
        told = ask(*calls, ("hurts", 0, 2), ("hurts", 0, 2), ("best",), ("fault", 0, 2), ("hurts", 0, 2), ("best",))
        self.assertEqual(told[len(calls):], [[0, 8], [0, 8], [0, 8], [2], [0, 0], [0, 0]])


class Could(unittest.TestCase):
    def could(self, kerf, lengths, metres):
        return last(*set_up(kerf, lengths, [(metres, 0)]), ("could", 0))

    def test_as_long_or_longer(self):
        for length in (1, 2, 9, 9999):
            for metres, told in ((1, [1]), (length, [1]), (length + 1, [0]), (10000, [0])):
                self.assertEqual(self.could(10, [(length, [])], metres), told, (length, metres))
        self.assertEqual(self.could(10, [(10000, [])], 10000), [1])

    def test_some_piece(self):
        for metres in range(1, 12):
            self.assertEqual(self.could(0, [(5, [2]), (9, [8, 1]), (4, [])], metres), [1 if metres <= 6 else 0])
            self.assertEqual(self.could(3, [(11, [5])], metres), [1 if metres <= 5 else 0])

    def test_no_pieces(self):
        self.assertEqual(self.could(0, [], 1), [0])
        self.assertEqual(self.could(0, [(1, [0])], 1), [0])
        self.assertEqual(self.could(0, [(2, [0, 1])], 1), [0])

    def test_the_others_do_not_matter(self):
        calls = set_up(0, [(5, [])], [(5, 9), (5, 0), (1, 0), (6, 10)])
        told = ask(*calls, ("could", 0), ("could", 1), ("could", 2), ("could", 3), ("fills",))
        self.assertEqual(told[len(calls):], [[1], [1], [1], [0], [1, 0]])

    def test_no_such_order(self):
        self.assertEqual(last(("begin", 0), ("length", 5), ("could", 0)), [-2])
        calls = set_up(0, [(5, [])], [(1, 1), (6, 1)])
        told = ask(*calls, ("could", 0), ("could", 1), ("could", 2), ("could", 3), ("could", BIGGEST))
        self.assertEqual(told[len(calls):], [[1], [0], [-2], [-2], [-2]])


class Together(unittest.TestCase):
    def together(self, kerf, lengths, orders, *sets):
        calls = [("together", chosen) for chosen in sets]
        return [told for (told,) in ask(*set_up(kerf, lengths, orders), *calls)[-len(sets):]]

    def test_each_set(self):
        orders = [(6, 1), (5, 0), (4, 9), (7, 2)]
        self.assertEqual(self.together(0, [(10, [])], orders, *range(16)),
                         [1, 1, 1, 0, 1, 1, 1, 0, 1, 0, 0, 0, 0, 0, 0, 0])
        self.assertEqual(self.together(1, [(10, [])], orders, *range(16)),
                         [1, 1, 1, 0, 1, 0, 1, 0, 1, 0, 0, 0, 0, 0, 0, 0])
        self.assertEqual(self.together(0, [(10, []), (12, [])], orders, *range(16)), [1] * 16)
        self.assertEqual(self.together(0, [(10, []), (11, [])], orders, *range(16)), [1] * 15 + [0])

    def test_none_of_them(self):
        self.assertEqual(last(("begin", 0), ("together", 0)), [1])
        self.assertEqual(self.together(0, [(1, [0])], [(1, 1)], 0, 1), [1, 0])
        self.assertEqual(self.together(10, [], [(1, 1)] * 4, 0, 1, 8, 15), [1, 0, 0, 0])

    def test_not_only_the_best_plan(self):
        self.assertEqual(self.together(0, [(5, [])], [(5, 100), (2, 0), (3, 0)], 1, 6, 3, 5, 7), [1, 1, 0, 0, 0])

    def test_just_as_long_as_two_orders_and_a_cut(self):
        self.assertEqual(self.together(3, [(12, [])], [(4, 1), (5, 1)], 3), [1])
        self.assertEqual(self.together(3, [(11, [])], [(4, 1), (5, 1)], 3), [0])
        self.assertEqual(self.together(10, [(10000, [])], [(4000, 1), (5990, 1)], 3), [1])
        self.assertEqual(self.together(10, [(10000, [])], [(4000, 1), (5991, 1)], 3), [0])

    def test_a_cut_between_each_two(self):
        self.assertEqual(self.together(1, [(7, [])], [(1, 1)] * 4, 15), [1])
        self.assertEqual(self.together(1, [(6, [])], [(1, 1)] * 4, 15, 7, 14), [0, 1, 1])

    def test_not_over_a_fault(self):
        self.assertEqual(self.together(0, [(9, [4])], [(4, 1), (4, 1), (5, 1)], 3, 4, 5), [1, 0, 0])

    def test_one_that_there_is_not(self):
        for count in range(5):
            orders = [(1, 1)] * count
            inside = [1 << o for o in range(count)] + [(1 << count) - 1]
            self.assertEqual(self.together(0, [(9, [])], orders, *inside), [1] * len(inside))
            above = [1 << o for o in range(count, 32)] + [(1 << count) + 1, (1 << count + 1) - 1, BIGGEST, BIGGEST - 15]
            self.assertEqual(self.together(0, [(9, [])], orders, *above), [-22] * len(above))

    def test_behind_a_cancel(self):
        calls = set_up(0, [(9, [])], [(4, 1), (9, 1), (5, 1)])
        told = ask(*calls, ("together", 7), ("together", 5), ("cancel", 1), ("together", 3), ("together", 4))
        self.assertEqual(told[len(calls):], [[0], [1], [2], [1], [-22]])


class AgainstTheWords(unittest.TestCase):
    def test_plans(self):
        source = random.Random(1)
        for turn in range(400):
            kerf, lengths, orders = some_works(source)
            plan = slow_plan(kerf, lengths, orders)
            filled = [o for o, place in enumerate(plan) if place]
            brought = sum(orders[o][1] for o in filled)
            told = ask(*set_up(kerf, lengths, orders), ("best",), ("plan",), ("fills",))[-3:]
            self.assertEqual(told, [[0, brought], [len(orders)] + plan, [len(filled)] + filled],
                             (kerf, lengths, orders))

    def test_worth_and_hurts(self):
        source = random.Random(2)
        for turn in range(150):
            kerf, lengths, orders = some_works(source)
            best = slow_best(kerf, lengths, orders)
            calls = set_up(kerf, lengths, orders)
            for o in range(len(orders)):
                without = slow_best(kerf, lengths, orders[:o] + orders[o + 1:])
                self.assertEqual(last(*calls, ("worth", o)), [0, best - without], (kerf, lengths, orders, o))
            for number, (metres, faults) in enumerate(lengths):
                metre = source.randrange(metres)
                faulty = lengths[:number] + [(metres, faults + [metre])] + lengths[number + 1:]
                hurt = best - slow_best(kerf, faulty, orders)
                self.assertEqual(last(*calls, ("hurts", number, metre)), [0, hurt],
                                 (kerf, lengths, orders, number, metre))


if __name__ == "__main__":
    unittest.main()
