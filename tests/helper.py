"""Calls by name, their answers one list each, and slow answers straight from the document's words."""

from itertools import product

from cutorders.cable import answers

NUMBERS = {
    "begin": 0, "length": 1, "fault": 2, "order": 3, "cancel": 4, "best": 5, "plan": 6, "fills": 7, "worth": 8,
    "hurts": 9, "could": 10, "together": 11, "sell": 12, "trim": 13, "pieces": 14, "longest": 15, "left": 16,
    "look": 17, "sums": 18,
}
BIGGEST = 4294967295


def written(calls):
    """The list that is handed in for calls such as ("length", 10)."""
    line = []
    for call in calls:
        line.append(NUMBERS[call[0]])
        line.extend(call[1:])
    return line


def split(told):
    """The list that is given back, as one list a call."""
    parts = []
    at = 0
    while at < len(told):
        behind = at + 1 + told[at]
        if told[at] < 1 or behind > len(told):
            raise ValueError(f"not a list of answers: {told}")
        parts.append(told[at + 1:behind])
        at = behind
    return parts


def ask(*calls):
    return split(answers(written(calls)))


def last(*calls):
    return ask(*calls)[-1]


def behind(calls, *asked):
    """The answers to what is asked behind the calls."""
    return ask(*calls, *asked)[len(calls):]


def pieces(lengths):
    """Metre by metre: of each piece its length's number and its metres."""
    found = []
    for number, (metres, faults) in enumerate(lengths):
        good = []
        for metre in range(metres + 1):
            if metre < metres and metre not in faults:
                good.append(metre)
            elif good:
                found.append((number, good))
                good = []
    return found


def is_plan(plan, kerf, lengths, orders):
    for number, (owner, metres) in enumerate(pieces(lengths)):
        cut = [orders[o][0] for o, place in enumerate(plan) if place == number + 1]
        if cut and sum(cut) + kerf * (len(cut) - 1) > len(metres):
            return False
    return True


def plan_brings(plan, orders):
    return sum(pays for (metres, pays), place in zip(orders, plan) if place)


def slow_plan(kerf, lengths, orders):
    """Every plan is tried, the first ones first."""
    choices = list(range(1, len(pieces(lengths)) + 1)) + [0]
    best = None
    for plan in product(choices, repeat=len(orders)):
        if is_plan(plan, kerf, lengths, orders):
            if best is None or plan_brings(plan, orders) > plan_brings(best, orders):
                best = plan
    return list(best)


def slow_best(kerf, lengths, orders):
    return plan_brings(slow_plan(kerf, lengths, orders), orders)


def most_of_all_cuts(kerf, lengths, orders):
    """What the orders bring if they may be cut anywhere: every beginning of each order is tried."""
    lying = pieces(lengths)

    def spots(metres):
        return [(number, start) for number, (owner, good) in enumerate(lying)
                for start in range(good[0], good[-1] + 2 - metres)]

    def clear(number, start, metres, taken):
        return all(number != other or start + metres + kerf <= first or first + size + kerf <= start
                   for other, first, size in taken)

    def most(o, taken):
        if o == len(orders):
            return 0
        metres, pays = orders[o]
        found = most(o + 1, taken)
        for number, start in spots(metres):
            if clear(number, start, metres, taken):
                found = max(found, pays + most(o + 1, taken + [(number, start, metres)]))
        return found

    return most(0, [])


def set_up(kerf, lengths, orders):
    """The calls that make these."""
    calls = [("begin", kerf)]
    for number, (metres, faults) in enumerate(lengths):
        calls.append(("length", metres))
        calls.extend(("fault", number, fault) for fault in faults)
    calls.extend(("order", metres, pays) for metres, pays in orders)
    return calls


def some_works(random):
    """Small works, so that the slow answers are quick enough and orders often just fit."""
    kerf = random.choice([0, 0, 1, 2, 3])
    lengths = []
    for number in range(random.randrange(4)):
        metres = random.randrange(1, 13)
        faults = random.sample(range(metres), min(metres, random.randrange(3)))
        lengths.append((metres, faults))
    orders = [(random.randrange(1, 8), random.choice([0, 1, 1, 2, 3, 5])) for o in range(random.randrange(5))]
    return kerf, lengths, orders


class Slow:
    """All calls, answered metre by metre and plan by plan. A length is a dict of metres, faults and what is cut off."""

    def __init__(self):
        self.begun = False

    def lying(self):
        """For the functions above, which know of no cutting off, a metre that is cut off is like a fault."""
        return [(one["metres"], one["faults"] + list(range(one["cut"]))) for one in self.lengths]

    def left_of(self, number):
        one = self.lengths[number]
        return [metre for metre in range(one["metres"]) if metre >= one["cut"]]

    def brings(self, lengths=None, orders=None):
        return slow_best(self.kerf, self.lying() if lengths is None else lengths,
                         self.orders if orders is None else orders)

    def answer(self, name, *numbers):
        if name != "begin" and not self.begun:
            return [-11]
        if name in ("fault", "hurts", "sell", "trim", "left") and numbers[0] >= len(self.lengths):
            return [-2]
        if name in ("cancel", "worth", "could", "sell", "look") and numbers[-1] >= len(self.orders):
            return [-2]
        return getattr(self, name)(*numbers)

    def begin(self, kerf):
        if kerf > 10:
            return [-22]
        self.begun, self.kerf, self.lengths, self.orders, self.sales = True, kerf, [], [], []
        return [0]

    def length(self, metres):
        if metres not in range(1, 10001):
            return [-22]
        if len(self.lengths) == 3:
            return [-28]
        self.lengths.append({"metres": metres, "faults": [], "cut": 0})
        return [len(self.lengths) - 1]

    def fault(self, number, metre):
        faults = self.lengths[number]["faults"]
        if metre not in self.left_of(number):
            return [-22]
        if metre in faults:
            return [-17]
        if len(faults) == 2:
            return [-28]
        faults.append(metre)
        return [len(pieces(self.lying()))]

    def order(self, metres, pays):
        if metres not in range(1, 10001) or pays not in range(10001):
            return [-22]
        if len(self.orders) == 4:
            return [-28]
        self.orders.append((metres, pays))
        return [len(self.orders) - 1]

    def cancel(self, number):
        self.orders.pop(number)
        return [len(self.orders)]

    def best(self):
        return [0, self.brings()]

    def plan(self):
        return [len(self.orders)] + slow_plan(self.kerf, self.lying(), self.orders)

    def fills(self):
        filled = [o for o, place in enumerate(self.plan()[1:]) if place]
        return [len(filled)] + filled

    def worth(self, number):
        return [0, self.brings() - self.brings(orders=self.orders[:number] + self.orders[number + 1:])]

    def hurts(self, number, metre):
        if metre not in self.left_of(number):
            return [-22]
        faulty = self.lying()
        faulty[number][1].append(metre)
        return [0, self.brings() - self.brings(lengths=faulty)]

    def could(self, number):
        return [int(any(len(good) >= self.orders[number][0] for owner, good in pieces(self.lying())))]

    def together(self, chosen):
        if any(chosen >> o & 1 for o in range(len(self.orders), 32)):
            return [-22]
        wanted = [(metres, 1) for o, (metres, pays) in enumerate(self.orders) if chosen >> o & 1]
        return [int(self.brings(orders=wanted) == len(wanted))]

    def sell(self, number, order):
        metres, pays = self.orders[order]
        first = self.left_of(number)[:metres]
        if len(first) < metres or set(first) & set(self.lengths[number]["faults"]):
            return [-33]
        self.lengths[number]["cut"] += len(self.left_of(number)[:metres + self.kerf])
        self.sales.append(self.orders.pop(order))
        return [0, pays]

    def trim(self, number, metres):
        if metres > len(self.left_of(number)):
            return [-12]
        self.lengths[number]["cut"] += metres
        return [len(self.left_of(number))]

    def pieces(self):
        found = pieces(self.lying())
        return [len(found)] + [told for owner, good in found for told in (owner, good[0], good[-1] + 1)]

    def longest(self):
        return [max([len(good) for owner, good in pieces(self.lying())], default=-33)]

    def left(self, number):
        one = self.lengths[number]
        return [len(self.left_of(number)), one["cut"], one["metres"]] + sorted(one["faults"])

    def look(self, number):
        return list(self.orders[number])

    def sums(self):
        return [len(self.lengths), len(self.orders), self.kerf, sum(metres for metres, pays in self.sales),
                sum(pays for metres, pays in self.sales)]


def slow_answers(calls):
    slow = Slow()
    return [slow.answer(*call) for call in calls]


def some_calls(random):
    """A line of calls on small works; most numbers are in range, and cuts and faults often meet."""
    def number():
        return random.choice([0, 0, 0, 0, 1, 1, 1, 2, 2, 3])

    def metre():
        return random.randrange(12)

    makers = [
        lambda: ("length", random.randrange(1, 13)),
        lambda: ("fault", number(), metre()),
        lambda: ("fault", number(), metre()),
        lambda: ("order", random.randrange(1, 7), random.choice([0, 1, 1, 2, 3, 5])),
        lambda: ("order", random.randrange(1, 4), random.choice([0, 1, 1, 2, 3, 5])),
        lambda: ("order", random.randrange(1, 4), random.choice([0, 1, 1, 2, 3, 5])),
        lambda: ("sell", number(), number()),
        lambda: ("trim", number(), random.choice([0, 1, 1, 2, 3, 9])),
        lambda: (random.choice(["worth", "could", "look", "left", "left", "cancel"]), number()),
        lambda: ("hurts", number(), metre()),
        lambda: ("together", random.choice([0, 1, 1, 2, 3, 3, 4, 5, 6, 7, 8, 11, 15, 16])),
        lambda: (random.choice(["best", "plan", "fills", "pieces", "longest", "sums"]),),
        lambda: (random.choice(["best", "plan", "fills", "pieces", "longest", "sums"]),),
    ]
    calls = [("begin", random.choice([0, 0, 1, 1, 2, 2, 3, 10, 10, 11]))]
    calls.extend(("length", random.randrange(4, 13)) for turn in range(random.randrange(1, 4)))
    while len(calls) < 80:
        calls.append(("begin", random.randrange(3)) if random.randrange(100) == 0 else random.choice(makers)())
    return calls
