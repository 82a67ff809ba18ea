"""Point 1: begin, length, fault, order, cancel."""

import unittest

from tests.helper import BIGGEST, ask, last

THREE_LENGTHS = [("begin", 0), ("length", 10), ("length", 20), ("length", 30)]
TWO_FAULTS = [("begin", 0), ("length", 10), ("fault", 0, 3), ("fault", 0, 6)]
FOUR_ORDERS = [("begin", 0), ("length", 10), ("order", 1, 1), ("order", 2, 2), ("order", 3, 3), ("order", 4, 4)]


class Begin(unittest.TestCase):
    def test_kerf_up_to_ten(self):
        for kerf in (0, 1, 9, 10):
            self.assertEqual(ask(("begin", kerf)), [[0]])

    def test_kerf_above_ten(self):
        for kerf in (11, 12, 10000, BIGGEST):
            self.assertEqual(ask(("begin", kerf)), [[-22]])

    def test_kerf_is_kept(self):
        for kerf in range(11):
            fits = [("begin", kerf), ("length", 9 + kerf), ("order", 4, 1), ("order", 5, 1), ("best",)]
            short = [("begin", kerf), ("length", 8 + kerf), ("order", 4, 1), ("order", 5, 1), ("best",)]
            self.assertEqual(last(*fits), [0, 2])
            self.assertEqual(last(*short), [0, 1])

    def test_again_nothing_is_there(self):
        told = ask(("begin", 3), ("length", 9), ("fault", 0, 4), ("order", 2, 7), ("begin", 0), ("best",), ("plan",),
                   ("fills",), ("fault", 0, 0), ("hurts", 0, 0), ("worth", 0), ("cancel", 0), ("length", 8),
                   ("fault", 0, 4), ("order", 3, 1), ("order", 1, 1), ("plan",))
        self.assertEqual(told[4:12], [[0], [0, 0], [0], [0], [-2], [-2], [-2], [-2]])
        self.assertEqual(told[12:], [[0], [2], [0], [1], [2, 1, 1]])

    def test_again_with_another_kerf(self):
        orders = [("order", 4, 1), ("order", 4, 1)]
        self.assertEqual(last(("begin", 0), ("begin", 1), ("length", 8), *orders, ("best",)), [0, 1])
        self.assertEqual(last(("begin", 1), ("begin", 0), ("length", 8), *orders, ("best",)), [0, 2])

    def test_refused_again_changes_nothing(self):
        for kerf in (11, BIGGEST):
            told = ask(("begin", 1), ("length", 9), ("fault", 0, 8), ("order", 4, 5), ("order", 4, 6), ("begin", kerf),
                       ("plan",), ("best",), ("order", 3, 9), ("plan",), ("length", 5))
            self.assertEqual(told[5:], [[-22], [2, 0, 1], [0, 6], [2], [3, 0, 1, 1], [1]])


class BeforeBegin(unittest.TestCase):
    CALLS = [("length", 5), ("fault", 0, 0), ("order", 1, 1), ("cancel", 0), ("best",), ("plan",), ("fills",),
             ("worth", 0), ("hurts", 0, 0), ("could", 0), ("together", 0), ("sell", 0, 0), ("trim", 0, 0),
             ("pieces",), ("longest",), ("left", 0), ("look", 0), ("sums",)]
    WRONG = [("length", 0), ("length", 10001), ("fault", 9, BIGGEST), ("order", 0, 0), ("order", 1, 10001),
             ("cancel", BIGGEST), ("worth", BIGGEST), ("hurts", BIGGEST, BIGGEST), ("together", BIGGEST),
             ("could", BIGGEST), ("sell", BIGGEST, BIGGEST), ("trim", BIGGEST, BIGGEST), ("left", BIGGEST),
             ("look", BIGGEST)]

    def test_each_alone(self):
        for call in self.CALLS + self.WRONG:
            self.assertEqual(ask(call), [[-11]], call)

    def test_one_behind_another(self):
        self.assertEqual(ask(*self.CALLS, *self.WRONG), [[-11]] * 32)

    def test_after_a_refused_begin(self):
        for call in self.CALLS + self.WRONG:
            self.assertEqual(ask(("begin", 11), call, ("begin", BIGGEST), call), [[-22], [-11], [-22], [-11]], call)

    def test_what_was_refused_is_not_there(self):
        told = ask(("begin", 11), ("length", 5), ("order", 1, 1), ("begin", 10), ("plan",), ("length", 5),
                   ("order", 1, 1), ("plan",))
        self.assertEqual(told, [[-22], [-11], [-11], [0], [0], [0], [0], [1, 1]])


class Length(unittest.TestCase):
    def test_metres(self):
        for metres, told in ((0, -22), (1, 0), (2, 0), (9999, 0), (10000, 0), (10001, -22), (BIGGEST, -22)):
            self.assertEqual(last(("begin", 0), ("length", metres)), [told], metres)

    def test_numbers_and_the_fourth(self):
        told = ask(*THREE_LENGTHS, ("length", 40), ("length", 1), ("length", 10000))
        self.assertEqual(told, [[0], [0], [1], [2], [-28], [-28], [-28]])

    def test_wrong_metres_are_answered_ahead_of_too_many(self):
        for metres in (0, 10001, BIGGEST):
            self.assertEqual(last(*THREE_LENGTHS, ("length", metres)), [-22])

    def test_refused_is_not_there(self):
        told = ask(("begin", 0), ("length", 0), ("length", 10001), ("fault", 0, 0), ("length", 5), ("fault", 0, 2))
        self.assertEqual(told[3:], [[-2], [0], [2]])
        self.assertEqual(ask(*THREE_LENGTHS, ("length", 40), ("order", 31, 1), ("best",))[-1], [0, 0])

    def test_as_long_as_told(self):
        for metres in (1, 2, 7, 9999, 10000):
            self.assertEqual(last(("begin", 0), ("length", metres), ("order", metres, 3), ("best",)), [0, 3])
        for metres in (1, 2, 7, 9999):
            self.assertEqual(last(("begin", 0), ("length", metres), ("order", metres + 1, 3), ("best",)), [0, 0])


class Fault(unittest.TestCase):
    def test_how_many_pieces_there_are(self):
        cases = [(1, [0], [0]), (2, [0], [1]), (2, [1], [1]), (3, [1], [2]), (5, [0, 4], [1, 1]), (5, [4, 0], [1, 1]),
                 (5, [2, 3], [2, 2]), (5, [1, 3], [2, 3]), (5, [3, 1], [2, 3]), (2, [0, 1], [1, 0]),
                 (10000, [9999, 5000], [1, 2]), (5, [0, 1], [1, 1]), (3, [0, 2], [1, 1])]
        for metres, faults, counts in cases:
            calls = [("fault", 0, fault) for fault in faults]
            told = ask(("begin", 0), ("length", metres), *calls)
            self.assertEqual(told[2:], [[count] for count in counts], (metres, faults))

    def test_pieces_of_all_lengths_are_counted(self):
        told = ask(*THREE_LENGTHS, ("fault", 1, 5), ("fault", 0, 5), ("fault", 2, 0), ("fault", 2, 15))
        self.assertEqual(told[4:], [[4], [5], [5], [6]])

    def test_no_such_length(self):
        self.assertEqual(last(("begin", 0), ("fault", 0, 0)), [-2])
        for number in (3, 4, BIGGEST):
            for metre in (0, 9, BIGGEST):
                self.assertEqual(last(*THREE_LENGTHS, ("fault", number, metre)), [-2])
        self.assertEqual(last(("begin", 0), ("length", 5), ("fault", 1, 0)), [-2])

    def test_not_in_the_length(self):
        for metre, told in ((9, 3), (10, -22), (11, -22), (BIGGEST, -22)):
            self.assertEqual(last(*THREE_LENGTHS, ("fault", 0, metre)), [told], metre)
        self.assertEqual(last(*THREE_LENGTHS, ("fault", 1, 10)), [4])
        self.assertEqual(last(*TWO_FAULTS, ("fault", 0, 10)), [-22])

    def test_there_is_one(self):
        self.assertEqual(last(("begin", 0), ("length", 10), ("fault", 0, 3), ("fault", 0, 3)), [-17])
        self.assertEqual(last(("begin", 0), ("length", 10), ("fault", 0, 0), ("fault", 0, 0)), [-17])
        for metre in (3, 6):
            self.assertEqual(last(*TWO_FAULTS, ("fault", 0, metre)), [-17])

    def test_one_in_another_length_is_another(self):
        self.assertEqual(ask(*THREE_LENGTHS, ("fault", 0, 3), ("fault", 1, 3))[4:], [[4], [5]])

    def test_the_third(self):
        for metre in (0, 2, 4, 5, 7, 9):
            self.assertEqual(last(*TWO_FAULTS, ("fault", 0, metre)), [-28])
        self.assertEqual(last(*TWO_FAULTS, ("length", 10), ("fault", 1, 4)), [5])

    def test_refused_changes_nothing(self):
        for call in (("fault", 0, 3), ("fault", 0, 8), ("fault", 0, 10), ("fault", 1, 0)):
            told = ask(*TWO_FAULTS, call, ("length", 4), ("fault", 1, 0), ("order", 3, 5), ("order", 3, 6), ("plan",))
            self.assertLess(told[4][0], 0)
            self.assertEqual(told[5:], [[1], [4], [0], [1], [2, 1, 3]])


class Order(unittest.TestCase):
    def test_metres(self):
        for metres, told in ((0, -22), (1, 0), (2, 0), (9999, 0), (10000, 0), (10001, -22), (BIGGEST, -22)):
            self.assertEqual(last(("begin", 0), ("order", metres, 5)), [told], metres)

    def test_pays(self):
        for pays, told in ((0, 0), (1, 0), (9999, 0), (10000, 0), (10001, -22), (BIGGEST, -22)):
            self.assertEqual(last(("begin", 0), ("order", 5, pays)), [told], pays)

    def test_numbers_and_the_fifth(self):
        told = ask(*FOUR_ORDERS, ("order", 1, 10000), ("order", 10000, 0))
        self.assertEqual(told[2:], [[0], [1], [2], [3], [-28], [-28]])

    def test_wrong_numbers_are_answered_ahead_of_too_many(self):
        for metres, pays in ((0, 0), (10001, 0), (1, 10001), (0, 10001), (BIGGEST, BIGGEST)):
            self.assertEqual(last(*FOUR_ORDERS, ("order", metres, pays)), [-22])

    def test_refused_is_not_there(self):
        told = ask(("begin", 0), ("length", 10), ("order", 0, 5), ("order", 5, 10001), ("order", 10001, 5), ("plan",))
        self.assertEqual(told[-1], [0])
        self.assertEqual(ask(*FOUR_ORDERS, ("order", 1, 9999), ("plan",), ("best",))[-2:], [[4, 1, 1, 1, 1], [0, 10]])

    def test_what_it_pays_is_kept(self):
        for pays in (0, 1, 9999, 10000):
            self.assertEqual(last(("begin", 0), ("length", 5), ("order", 5, pays), ("best",)), [0, pays])


class Cancel(unittest.TestCase):
    def test_how_many_are_left(self):
        told = ask(*FOUR_ORDERS, ("cancel", 0), ("cancel", 0), ("cancel", 1), ("cancel", 0), ("cancel", 0))
        self.assertEqual(told[6:], [[3], [2], [1], [0], [-2]])

    def test_no_such_order(self):
        self.assertEqual(last(("begin", 0), ("cancel", 0)), [-2])
        for number in (4, 5, BIGGEST):
            self.assertEqual(ask(*FOUR_ORDERS, ("cancel", number), ("best",))[-2:], [[-2], [0, 10]])
        self.assertEqual(last(("begin", 0), ("order", 1, 1), ("cancel", 1)), [-2])

    def test_those_behind_it_are_numbered_one_less(self):
        paid = [1, 2, 3, 4]
        for number in range(4):
            rest = paid[:number] + paid[number + 1:]
            told = ask(*FOUR_ORDERS, ("cancel", number), ("worth", 0), ("worth", 1), ("worth", 2), ("worth", 3))
            self.assertEqual(told[7:], [[0, pays] for pays in rest] + [[-2]])

    def test_there_is_room_for_another(self):
        told = ask(*FOUR_ORDERS, ("cancel", 1), ("order", 1, 50), ("order", 1, 1), ("worth", 3), ("worth", 1))
        self.assertEqual(told[6:], [[3], [3], [-28], [0, 50], [0, 3]])


if __name__ == "__main__":
    unittest.main()
