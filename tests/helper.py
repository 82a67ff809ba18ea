"""Calls by name, their answers one list each, and slow answers straight from the document's words."""

from itertools import product

from cutorders.cable import answers

NUMBERS = {
    "begin": 0, "length": 1, "fault": 2, "order": 3, "cancel": 4, "best": 5, "plan": 6, "fills": 7, "worth": 8,
    "hurts": 9, "could": 10, "together": 11, "sell": 12, "trim": 13, "pieces": 14, "longest": 15, "left": 16,
    "look": 17, "sums": 18,
}
BIGGEST = 4294967295


def written(calls):
    """The list that is handed in for calls such as ("length", 10)."""
    line = []
    for call in calls:
        line.append(NUMBERS[call[0]])
        line.extend(call[1:])
    return line


def split(told):
    """The list that is given back, as one list a call."""
    parts = []
    at = 0
    while at < len(told):
        behind = at + 1 + told[at]
        if told[at] < 1 or behind > len(told):
            raise ValueError(f"not a list of answers: {told}")
        parts.append(told[at + 1:behind])
        at = behind
    return parts


def ask(*calls):
    return split(answers(written(calls)))


def last(*calls):
    return ask(*calls)[-1]


def pieces(lengths):
    """Metre by metre: of each piece its length's number and its metres."""
    found = []
    for number, (metres, faults) in enumerate(lengths):
        good = []
        for metre in range(metres + 1):
            if metre < metres and metre not in faults:
                good.append(metre)
            elif good:
                found.append((number, good))
                good = []
    return found


def is_plan(plan, kerf, lengths, orders):
    for number, (owner, metres) in enumerate(pieces(lengths)):
        cut = [orders[o][0] for o, place in enumerate(plan) if place == number + 1]
        if cut and sum(cut) + kerf * (len(cut) - 1) > len(metres):
            return False
    return True


def plan_brings(plan, orders):
    return sum(pays for (metres, pays), place in zip(orders, plan) if place)


def slow_plan(kerf, lengths, orders):
    """Every plan is tried, the first ones first."""
    choices = list(range(1, len(pieces(lengths)) + 1)) + [0]
    best = None
    for plan in product(choices, repeat=len(orders)):
        if is_plan(plan, kerf, lengths, orders):
            if best is None or plan_brings(plan, orders) > plan_brings(best, orders):
                best = plan
    return list(best)


def slow_best(kerf, lengths, orders):
    return plan_brings(slow_plan(kerf, lengths, orders), orders)


def most_of_all_cuts(kerf, lengths, orders):
    """What the orders bring if they may be cut anywhere: every beginning of each order is tried."""
    lying = pieces(lengths)

    def spots(metres):
        return [(number, start) for number, (owner, good) in enumerate(lying)
                for start in range(good[0], good[-1] + 2 - metres)]

    def clear(number, start, metres, taken):
        return all(number != other or start + metres + kerf <= first or first + size + kerf <= start
                   for other, first, size in taken)

    def most(o, taken):
        if o == len(orders):
            return 0
        metres, pays = orders[o]
        found = most(o + 1, taken)
        for number, start in spots(metres):
            if clear(number, start, metres, taken):
                found = max(found, pays + most(o + 1, taken + [(number, start, metres)]))
        return found

    return most(0, [])


def set_up(kerf, lengths, orders):
    """The calls that make these."""
    calls = [("begin", kerf)]
    for number, (metres, faults) in enumerate(lengths):
        calls.append(("length", metres))
        calls.extend(("fault", number, fault) for fault in faults)
    calls.extend(("order", metres, pays) for metres, pays in orders)
    return calls


def some_works(random):
    """Small works, so that the slow answers are quick enough and orders often just fit."""
    kerf = random.choice([0, 0, 1, 2, 3])
    lengths = []
    for number in range(random.randrange(4)):
        metres = random.randrange(1, 13)
        faults = random.sample(range(metres), min(metres, random.randrange(3)))
        lengths.append((metres, faults))
    orders = [(random.randrange(1, 8), random.choice([0, 1, 1, 2, 3, 5])) for o in range(random.randrange(5))]
    return kerf, lengths, orders
