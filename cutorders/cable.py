"""The calls on one object, answered one behind another."""

from cutorders.plans import best_plan, go_together, good_at_first, longest_of, most_brought
from cutorders.plans import pieces_of, rooms_of, wants_of

NO_SUCH = -2
NOT_BEGUN = -11
LESS_IS_LEFT = -12
THERE_IS_ONE = -17
OUT_OF_RANGE = -22
TOO_MANY = -28
NO_SUCH_PIECE = -33

KERF_AT_MOST = 10
METRES_AT_MOST = 10000
PAYS_AT_MOST = 10000
LENGTHS_AT_MOST = 3
FAULTS_AT_MOST = 2
ORDERS_AT_MOST = 4

BEGIN = 0


# A length lies from 0 to its metres. The metres keep their numbers when the first ones are cut off: so do the faults,
# and those in what was cut off stay among them, as they count and are told.
class Length:
    def __init__(self, cut_off, metres, faults):
        self.cut_off = cut_off
        self.metres = metres
        self.faults = faults


# Orders are tuples of metres and what they pay.
class Works:
    def __init__(self):
        self.begun = False
        self.kerf = 0
        self.lengths = []
        self.orders = []
        self.sold = 0
        self.brought = 0


def has_left(length, metre):
    return length.cut_off <= metre and metre < length.metres


def how_much_is_left(length):
    return length.metres - length.cut_off


def pieces_left(length):
    return pieces_of(length.cut_off, length.metres, length.faults)


def all_pieces(lengths):
    pieces = []
    for length in lengths:
        pieces.extend(pieces_left(length))
    return pieces


def with_fault(lengths, number, metre):
    length = lengths[number]
    changed = list(lengths)
    changed[number] = Length(length.cut_off, length.metres, length.faults + [metre])
    return changed


def brings(kerf, lengths, orders):
    return most_brought(rooms_of(all_pieces(lengths), kerf), wants_of(orders, kerf))


def places_of(works):
    rooms = rooms_of(all_pieces(works.lengths), works.kerf)
    return best_plan(rooms, wants_of(works.orders, works.kerf))


def begin(works, kerf):
    if kerf > KERF_AT_MOST:
        return [OUT_OF_RANGE]
    works.begun = True
    works.kerf = kerf
    works.lengths = []
    works.orders = []
    works.sold = 0
    works.brought = 0
    return [0]


def add_length(works, metres):
    if metres < 1 or metres > METRES_AT_MOST:
        return [OUT_OF_RANGE]
    if len(works.lengths) >= LENGTHS_AT_MOST:
        return [TOO_MANY]
    works.lengths.append(Length(0, metres, []))
    return [len(works.lengths) - 1]


def add_fault(works, number, metre):
    if number >= len(works.lengths):
        return [NO_SUCH]
    length = works.lengths[number]
    if not has_left(length, metre):
        return [OUT_OF_RANGE]
    if metre in length.faults:
        return [THERE_IS_ONE]
    if len(length.faults) >= FAULTS_AT_MOST:
        return [TOO_MANY]
    works.lengths = with_fault(works.lengths, number, metre)
    return [len(all_pieces(works.lengths))]


def add_order(works, metres, pays):
    if metres < 1 or metres > METRES_AT_MOST or pays > PAYS_AT_MOST:
        return [OUT_OF_RANGE]
    if len(works.orders) >= ORDERS_AT_MOST:
        return [TOO_MANY]
    works.orders.append((metres, pays))
    return [len(works.orders) - 1]


def cancel(works, number):
    if number >= len(works.orders):
        return [NO_SUCH]
    works.orders.pop(number)
    return [len(works.orders)]


def tell_best(works):
    return [0, brings(works.kerf, works.lengths, works.orders)]


def tell_plan(works):
    places = places_of(works)
    return [len(places)] + places


def tell_fills(works):
    filled = [number for number, place in enumerate(places_of(works)) if place > 0]
    return [len(filled)] + filled


def tell_worth(works, number):
    if number >= len(works.orders):
        return [NO_SUCH]
    others = works.orders[:number] + works.orders[number + 1:]
    with_it = brings(works.kerf, works.lengths, works.orders)
    return [0, with_it - brings(works.kerf, works.lengths, others)]


def tell_hurts(works, number, metre):
    if number >= len(works.lengths):
        return [NO_SUCH]
    if not has_left(works.lengths[number], metre):
        return [OUT_OF_RANGE]
    # The fault may be the third, or there already: then it is listed twice, which leaves the pieces as they are.
    faulty = with_fault(works.lengths, number, metre)
    without_it = brings(works.kerf, works.lengths, works.orders)
    return [0, without_it - brings(works.kerf, faulty, works.orders)]


def tell_could(works, number):
    if number >= len(works.orders):
        return [NO_SUCH]
    return [1 if longest_of(all_pieces(works.lengths)) >= works.orders[number][0] else 0]


def tell_together(works, chosen):
    if chosen >> len(works.orders) > 0:
        return [OUT_OF_RANGE]
    rooms = rooms_of(all_pieces(works.lengths), works.kerf)
    return [1 if go_together(rooms, wants_of(works.orders, works.kerf), chosen) else 0]


def sell(works, length_number, order_number):
    if length_number >= len(works.lengths) or order_number >= len(works.orders):
        return [NO_SUCH]
    length = works.lengths[length_number]
    metres = works.orders[order_number][0]
    pays = works.orders[order_number][1]
    if good_at_first(length.cut_off, length.metres, length.faults) < metres:
        return [NO_SUCH_PIECE]
    length.cut_off = min(length.cut_off + metres + works.kerf, length.metres)
    works.orders.pop(order_number)
    works.sold = works.sold + metres
    works.brought = works.brought + pays
    return [0, pays]


def trim(works, number, metres):
    if number >= len(works.lengths):
        return [NO_SUCH]
    length = works.lengths[number]
    if how_much_is_left(length) < metres:
        return [LESS_IS_LEFT]
    length.cut_off = length.cut_off + metres
    return [how_much_is_left(length)]


def tell_pieces(works):
    told = [len(all_pieces(works.lengths))]
    for number, length in enumerate(works.lengths):
        for start, stop in pieces_left(length):
            told.extend([number, start, stop])
    return told


def tell_longest(works):
    longest = longest_of(all_pieces(works.lengths))
    if longest == 0:
        return [NO_SUCH_PIECE]
    return [longest]


def tell_left(works, number):
    if number >= len(works.lengths):
        return [NO_SUCH]
    length = works.lengths[number]
    return [how_much_is_left(length), length.cut_off, length.metres] + sorted(length.faults)


def tell_look(works, number):
    if number >= len(works.orders):
        return [NO_SUCH]
    return list(works.orders[number])


def tell_sums(works):
    return [len(works.lengths), len(works.orders), works.kerf, works.sold, works.brought]


# Both by a call's number.
HOW_MANY_NUMBERS = (1, 1, 2, 2, 1, 0, 0, 0, 1, 2, 1, 1, 2, 2, 0, 0, 1, 1, 0)
CALLED = (
    begin, add_length, add_fault, add_order, cancel, tell_best, tell_plan, tell_fills, tell_worth, tell_hurts,
    tell_could, tell_together, sell, trim, tell_pieces, tell_longest, tell_left, tell_look, tell_sums,
)


def answer(works, call, numbers):
    if call != BEGIN and not works.begun:
        return [NOT_BEGUN]
    called = CALLED[call]
    if len(numbers) == 0:
        return called(works)
    if len(numbers) == 1:
        return called(works, numbers[0])
    return called(works, numbers[0], numbers[1])


# Of each call, in order, how many numbers are answered, then these.
def answers(calls):
    works = Works()
    told = []
    at = 0
    while at < len(calls):
        behind = at + 1 + HOW_MANY_NUMBERS[calls[at]]
        numbers = answer(works, calls[at], calls[at + 1:behind])
        told.append(len(numbers))
        told.extend(numbers)
        at = behind
    return told
