"""The calls on one object, answered one behind another."""

from cutorders.plans import best_plan, most_brought, pieces_of, rooms_of, wants_of

NO_SUCH = -2
NOT_BEGUN = -11
THERE_IS_ONE = -17
OUT_OF_RANGE = -22
TOO_MANY = -28

KERF_AT_MOST = 10
METRES_AT_MOST = 10000
PAYS_AT_MOST = 10000
LENGTHS_AT_MOST = 3
FAULTS_AT_MOST = 2
ORDERS_AT_MOST = 4

BEGIN = 0


# Lengths are tuples of metres and a list of faults; orders are tuples of metres and what they pay.
class Works:
    def __init__(self):
        self.begun = False
        self.kerf = 0
        self.lengths = []
        self.orders = []


def all_pieces(lengths):
    pieces = []
    for metres, faults in lengths:
        pieces.extend(pieces_of(metres, faults))
    return pieces


def with_fault(lengths, number, metre):
    changed = list(lengths)
    changed[number] = (lengths[number][0], lengths[number][1] + [metre])
    return changed


def brings(kerf, lengths, orders):
    return most_brought(rooms_of(all_pieces(lengths), kerf), wants_of(orders, kerf))


def places_of(works):
    rooms = rooms_of(all_pieces(works.lengths), works.kerf)
    return best_plan(rooms, wants_of(works.orders, works.kerf))


def begin(works, kerf):
    if kerf > KERF_AT_MOST:
        return [OUT_OF_RANGE]
    works.begun = True
    works.kerf = kerf
    works.lengths = []
    works.orders = []
    return [0]


def add_length(works, metres):
    if metres < 1 or metres > METRES_AT_MOST:
        return [OUT_OF_RANGE]
    if len(works.lengths) >= LENGTHS_AT_MOST:
        return [TOO_MANY]
    works.lengths.append((metres, []))
    return [len(works.lengths) - 1]


def add_fault(works, number, metre):
    if number >= len(works.lengths):
        return [NO_SUCH]
    metres = works.lengths[number][0]
    faults = works.lengths[number][1]
    if metre >= metres:
        return [OUT_OF_RANGE]
    if metre in faults:
        return [THERE_IS_ONE]
    if len(faults) >= FAULTS_AT_MOST:
        return [TOO_MANY]
    works.lengths = with_fault(works.lengths, number, metre)
    return [len(all_pieces(works.lengths))]


def add_order(works, metres, pays):
    if metres < 1 or metres > METRES_AT_MOST or pays > PAYS_AT_MOST:
        return [OUT_OF_RANGE]
    if len(works.orders) >= ORDERS_AT_MOST:
        return [TOO_MANY]
    works.orders.append((metres, pays))
    return [len(works.orders) - 1]


def cancel(works, number):
    if number >= len(works.orders):
        return [NO_SUCH]
    works.orders.pop(number)
    return [len(works.orders)]


def tell_best(works):
    return [0, brings(works.kerf, works.lengths, works.orders)]


def tell_plan(works):
    places = places_of(works)
    return [len(places)] + places


def tell_fills(works):
    filled = [number for number, place in enumerate(places_of(works)) if place > 0]
    return [len(filled)] + filled


def tell_worth(works, number):
    if number >= len(works.orders):
        return [NO_SUCH]
    others = works.orders[:number] + works.orders[number + 1:]
    with_it = brings(works.kerf, works.lengths, works.orders)
    return [0, with_it - brings(works.kerf, works.lengths, others)]


def tell_hurts(works, number, metre):
    if number >= len(works.lengths):
        return [NO_SUCH]
    if metre >= works.lengths[number][0]:
        return [OUT_OF_RANGE]
    # The fault may be the third, or there already: then it is listed twice, which leaves the pieces as they are.
    faulty = with_fault(works.lengths, number, metre)
    without_it = brings(works.kerf, works.lengths, works.orders)
    return [0, without_it - brings(works.kerf, faulty, works.orders)]


# Calls 10 to 18 have no function yet, but their numbers are known, so that they too are refused ahead of a begin.
HOW_MANY_NUMBERS = (1, 1, 2, 2, 1, 0, 0, 0, 1, 2, 1, 1, 2, 2, 0, 0, 1, 1, 0)
CALLED = (begin, add_length, add_fault, add_order, cancel, tell_best, tell_plan, tell_fills, tell_worth, tell_hurts)


def answer(works, call, numbers):
    if call != BEGIN and not works.begun:
        return [NOT_BEGUN]
    called = CALLED[call]
    if len(numbers) == 0:
        return called(works)
    if len(numbers) == 1:
        return called(works, numbers[0])
    return called(works, numbers[0], numbers[1])


# Of each call, in order, how many numbers are answered, then these.
def answers(calls):
    works = Works()
    told = []
    at = 0
    while at < len(calls):
        behind = at + 1 + HOW_MANY_NUMBERS[calls[at]]
        numbers = answer(works, calls[at], calls[at + 1:behind])
        told.append(len(numbers))
        told.extend(numbers)
        at = behind
    return told
