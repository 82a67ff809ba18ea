"""What the document says under "What holds" and "Corners", and whole lines of calls against slow answers."""

import random
import unittest

from tests.helper import ask, last, most_of_all_cuts, set_up, slow_answers, some_calls, some_works


def cut_works(source):
    """Small works, the calls that make them with some of each length cut off, and what is then left of the lengths."""
    kerf, lengths, orders = some_works(source)
    calls = set_up(kerf, lengths, orders)
    left = []
    for number, (metres, faults) in enumerate(lengths):
        cut = source.choice([0, 1, 2, source.randrange(metres + 1)]) % (metres + 1)
        calls.append(("trim", number, cut))
        # To the slow answers a metre that was cut off is like a fault.
        left.append((metres, faults + list(range(cut))))
    return kerf, left, orders, calls


class Lines(unittest.TestCase):
    def test_against_slow_answers(self):
        source = random.Random(6)
        for turn in range(150):
            calls = some_calls(source)
            for call, told, slow in zip(calls, ask(*calls), slow_answers(calls), strict=True):
                self.assertEqual(told, slow, (turn, call, calls))


class WhatHolds(unittest.TestCase):
    def test_no_cuts_whatever_bring_more(self):
        source = random.Random(3)
        for turn in range(150):
            kerf, lengths, orders, calls = cut_works(source)
            if len(lengths) < 3 and len(orders) < 4:
                told = last(*calls, ("best",))
                self.assertEqual(told, [0, most_of_all_cuts(kerf, lengths, orders)], (kerf, lengths, orders))

    def test_an_order_more_never_brings_less(self):
        source = random.Random(4)
        for turn in range(150):
            kerf, lengths, orders, calls = cut_works(source)
            calls = [call for call in calls if call[0] != "order"]
            asked = [("best",)]
            for metres, pays in orders:
                asked += [("order", metres, pays), ("best",)]
            brought = [told[1] for told in ask(*calls, *asked)[len(calls)::2]]
            self.assertEqual(brought, sorted(brought), (kerf, lengths, orders))

    def test_an_order_is_never_worth_less_than_nothing(self):
        source = random.Random(7)
        for turn in range(100):
            kerf, lengths, orders, calls = cut_works(source)
            for number in range(len(orders)):
                self.assertGreaterEqual(last(*calls, ("worth", number))[1], 0)

    def test_orders_go_together_just_if_they_can_be_cut(self):
        source = random.Random(8)
        for turn in range(120):
            kerf, lengths, orders, calls = cut_works(source)
            if len(lengths) < 3 and len(orders) < 4:
                sets = range(1 << len(orders))
                told = ask(*calls, *[("together", chosen) for chosen in sets])[len(calls):]
                for chosen in sets:
                    wanted = [(metres, 1) for o, (metres, pays) in enumerate(orders) if chosen >> o & 1]
                    can = most_of_all_cuts(kerf, lengths, wanted) == len(wanted)
                    self.assertEqual(told[chosen], [1 if can else 0], (kerf, lengths, orders, chosen))

    def test_what_is_filled_goes_together_and_could_be_filled(self):
        source = random.Random(9)
        for turn in range(100):
            kerf, lengths, orders, calls = cut_works(source)
            filled = last(*calls, ("fills",))[1:]
            self.assertEqual(last(*calls, ("together", sum(1 << o for o in filled))), [1])
            for number in range(len(orders)):
                told = ask(*calls, ("could", number), ("together", 1 << number))[-2:]
                self.assertEqual(told[0], told[1])

    def test_each_good_metre_is_in_one_piece(self):
        source = random.Random(10)
        for turn in range(150):
            calls = some_calls(source)[:40] + [("pieces",)] + [("left", l) for l in range(3)]
            told = ask(*calls)
            if told[-4] == [-11]:
                continue
            spans = [tuple(told[-4][at:at + 3]) for at in range(1, len(told[-4]), 3)]
            self.assertEqual(told[-4][0], len(spans))
            for number, left in enumerate(told[-3:]):
                good = [] if left == [-2] else [m for m in range(left[1], left[2]) if m not in left[3:]]
                found = [m for owner, start, stop in spans if owner == number for m in range(start, stop)]
                self.assertEqual(found, good, (calls, number))
                # A piece ends at a fault or at the length's end alone.
                ends = [stop for owner, start, stop in spans if owner == number]
                self.assertEqual([stop for stop in ends if stop in good], [], (calls, number))

    def test_what_is_sold_was_whole(self):
        source = random.Random(11)
        sales = 0
        for turn in range(150):
            calls = []
            for call in some_calls(source)[:26]:
                if call[0] == "sell":
                    calls += [("left", call[1]), ("look", call[2]), call, ("left", call[1])]
                else:
                    calls.append(call)
            told = ask(*calls)
            for at, call in enumerate(calls):
                if call[0] == "sell" and told[at][0] == 0:
                    sales += 1
                    before, order, after = told[at - 2], told[at - 1], told[at + 1]
                    metres = range(before[1], before[1] + order[0])
                    self.assertLessEqual(metres.stop, before[2])
                    self.assertEqual([fault for fault in before[3:] if fault in metres], [])
                    # So no metre is sold twice.
                    self.assertGreaterEqual(after[1], metres.stop)
                    self.assertEqual(after[2:], before[2:])
        self.assertGreater(sales, 50)


class Corners(unittest.TestCase):
    def check(self, calls, *asked):
        """Each asked is a call and its answer."""
        told = ask(*calls, *[call for call, answer in asked])[len(calls):]
        for (call, answer), found in zip(asked, told, strict=True):
            self.assertEqual(found, answer, call)

    def test_a_piece_just_as_long_as_two_orders_and_a_cut(self):
        self.check(set_up(2, [(15, [0, 14])], [(5, 3), (6, 4)]),
                   (("longest",), [13]), (("best",), [0, 7]), (("plan",), [2, 1, 1]), (("together", 3), [1]),
                   (("hurts", 0, 1), [0, 3]), (("hurts", 0, 6), [0, 0]), (("trim", 0, 1), [14]),
                   (("sell", 0, 0), [0, 3]), (("longest",), [6]), (("sell", 0, 0), [0, 4]),
                   (("left", 0), [0, 15, 15, 0, 14]), (("sums",), [1, 0, 2, 11, 7]))
        self.check(set_up(2, [(14, [0, 13])], [(5, 3), (6, 4)]),
                   (("longest",), [12]), (("best",), [0, 4]), (("plan",), [2, 0, 1]), (("together", 3), [0]),
                   (("trim", 0, 1), [13]), (("sell", 0, 0), [0, 3]), (("sell", 0, 0), [-33]))

    def test_a_fault_at_the_very_beginning(self):
        self.check(set_up(1, [(6, [0])], [(5, 3), (1, 1)]),
                   (("pieces",), [1, 0, 1, 6]), (("left", 0), [6, 0, 6, 0]), (("could", 0), [1]), (("fills",), [1, 0]),
                   (("hurts", 0, 0), [0, 0]), (("sell", 0, 1), [-33]), (("trim", 0, 1), [5]), (("hurts", 0, 0), [-22]),
                   (("sell", 0, 0), [0, 3]), (("pieces",), [0]), (("left", 0), [0, 6, 6, 0]))

    def test_two_faults_side_by_side(self):
        self.check(set_up(1, [(6, [2, 3])], [(2, 3), (2, 1)]),
                   (("pieces",), [2, 0, 0, 2, 0, 4, 6]), (("longest",), [2]), (("plan",), [2, 1, 2]),
                   (("sell", 0, 0), [0, 3]), (("left", 0), [3, 3, 6, 2, 3]), (("pieces",), [1, 0, 4, 6]),
                   (("sell", 0, 0), [-33]), (("fault", 0, 4), [-28]), (("trim", 0, 1), [2]), (("sell", 0, 0), [0, 1]),
                   (("sums",), [1, 0, 1, 4, 4]))

    def test_an_order_that_pays_nothing(self):
        self.check(set_up(0, [(5, [])], [(5, 0)]),
                   (("look", 0), [5, 0]), (("best",), [0, 0]), (("plan",), [1, 1]), (("fills",), [1, 0]),
                   (("worth", 0), [0, 0]), (("hurts", 0, 2), [0, 0]), (("could", 0), [1]), (("together", 1), [1]),
                   (("sell", 0, 0), [0, 0]), (("sums",), [1, 0, 0, 5, 0]))

    def test_a_cut_of_nothing(self):
        self.check(set_up(0, [(9, [])], [(4, 1), (3, 1), (2, 1)]),
                   (("plan",), [3, 1, 1, 1]), (("together", 7), [1]), (("sell", 0, 2), [0, 1]),
                   (("left", 0), [7, 2, 9]), (("together", 3), [1]), (("sell", 0, 0), [0, 1]),
                   (("left", 0), [3, 6, 9]), (("sell", 0, 0), [0, 1]), (("left", 0), [0, 9, 9]),
                   (("sums",), [1, 0, 0, 9, 3]))

    def test_a_length_that_is_all_sold(self):
        calls = set_up(3, [(6, []), (4, [1])], [(5, 2), (1, 1), (2, 7)])
        self.check(calls + [("sell", 0, 0)],
                   (("left", 0), [0, 6, 6]), (("pieces",), [2, 1, 0, 1, 1, 2, 4]), (("plan",), [2, 1, 2]),
                   (("fault", 0, 0), [-22]), (("fault", 0, 5), [-22]), (("fault", 0, 6), [-22]),
                   (("hurts", 0, 5), [-22]), (("hurts", 1, 0), [0, 1]), (("sell", 0, 0), [-33]), (("trim", 0, 0), [0]),
                   (("trim", 0, 1), [-12]), (("could", 1), [1]), (("longest",), [2]), (("sums",), [2, 2, 3, 5, 2]),
                   (("length", 5), [2]), (("length", 5), [-28]))

    def test_no_pieces_and_orders(self):
        nothing = [(("best",), [0, 0]), (("plan",), [2, 0, 0]), (("fills",), [0]), (("worth", 1), [0, 0]),
                   (("could", 0), [0]), (("could", 1), [0]), (("together", 0), [1]), (("together", 1), [0]),
                   (("together", 3), [0]), (("together", 4), [-22]), (("pieces",), [0]), (("longest",), [-33]),
                   (("look", 0), [1, 5])]
        orders = [(1, 5), (2, 0)]
        self.check(set_up(0, [], orders), *nothing, (("sell", 0, 0), [-2]))
        self.check(set_up(0, [(1, [0])], orders), *nothing, (("sell", 0, 0), [-33]), (("hurts", 0, 0), [0, 0]))
        self.check(set_up(9, [(5, [])], orders) + [("trim", 0, 5)], *nothing, (("sell", 0, 0), [-33]))
        self.check(set_up(9, [(5, [4])], orders) + [("trim", 0, 4)], *nothing, (("sell", 0, 0), [-33]))
        self.check(set_up(9, [(5, [])], [(2, 3)] + orders) + [("sell", 0, 0)], *nothing, (("sell", 0, 0), [-33]))

    def test_two_plans_that_bring_alike(self):
        self.check(set_up(0, [(5, []), (5, [])], [(5, 3)]),
                   (("plan",), [1, 1]), (("trim", 0, 1), [4]), (("plan",), [1, 2]))
        self.check(set_up(0, [(7, [])], [(4, 3), (4, 3)]),
                   (("plan",), [2, 1, 0]), (("fills",), [1, 0]), (("worth", 0), [0, 0]), (("worth", 1), [0, 0]))
        self.check(set_up(0, [(8, []), (5, [])], [(5, 3), (2, 1), (3, 2)]) + [("trim", 0, 3)],
                   (("plan",), [3, 1, 2, 2]), (("trim", 1, 5), [0]), (("plan",), [3, 1, 0, 0]))


if __name__ == "__main__":
    unittest.main()
