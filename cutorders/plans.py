"""Pieces of cable, and which orders are best filled out of them.

A room is what a piece holds, a want is a tuple of what an order needs of a room and what it pays.
A set of wants is a whole number: bit k for want k.
"""


# The pieces between the faults of what lies from begins to ends, one behind another: of each from where, to where.
def pieces_of(begins, ends, faults):
    pieces = []
    start = begins
    for stop in sorted(faults) + [ends]:
        if stop > start:
            pieces.append((start, stop))
        # A fault ahead of the beginning must not bring back what was cut off.
        start = max(start, stop + 1)
    return pieces


# How many metres there are ahead of the first fault.
def good_at_first(begins, ends, faults):
    return min([fault for fault in faults if fault >= begins] + [ends]) - begins


# The longest piece's metres; 0 if there are no pieces.
def longest_of(pieces):
    return max([stop - start for start, stop in pieces], default=0)


def rooms_of(pieces, kerf):
    # Orders out of one piece have one cut fewer than they are. With a cut added to the piece,
    # and one to each order (wants_of), there is no difference between the first and the others.
    return [stop - start + kerf for start, stop in pieces]


def wants_of(orders, kerf):
    return [(metres + kerf, pays) for metres, pays in orders]


# Of each set of the numbers what they come to; the set is the index.
def totals(numbers):
    sums = [0]
    for number in numbers:
        sums = sums + [total + number for total in sums]
    return sums


# Whether some of the chosen go into the room, and all others into the rooms before it.
def goes_with(chosen, needed, room, before):
    for part in range(chosen + 1):
        if part & chosen == part and needed[part] <= room and before[chosen - part]:
            return True
    return False


# Of each set of wants whether all in it can be filled together; the set is the index.
def fillable(rooms, needed):
    can = [chosen == 0 for chosen in range(len(needed))]
    for room in rooms:
        can = [goes_with(chosen, needed, room, can) for chosen in range(len(needed))]
    return can


# Whether some plan fills all of the chosen.
def go_together(rooms, wants, chosen):
    return fillable(rooms, totals([need for need, pays in wants]))[chosen]


# What the best plan brings.
def most_brought(rooms, wants):
    can = fillable(rooms, totals([need for need, pays in wants]))
    paid = totals([pays for need, pays in wants])
    return max([brought for brought, possible in zip(paid, can) if possible])


# The first room, counted from 1, that the first want can have while all bring the goal; else 0.
def first_place(rooms, wants, goal):
    need = wants[0][0]
    pays = wants[0][1]
    for k, room in enumerate(rooms):
        if need <= room:
            rest = rooms[:k] + [room - need] + rooms[k + 1:]
            if pays + most_brought(rest, wants[1:]) == goal:
                return k + 1
    return 0


# The first of the plans that bring most: of each want its room, counted from 1, or 0.
def best_plan(rooms, wants):
    places = []
    rest = list(rooms)
    goal = most_brought(rest, wants)
    for k, want in enumerate(wants):
        place = first_place(rest, wants[k:], goal)
        if place > 0:
            rest[place - 1] = rest[place - 1] - want[0]
            goal = goal - want[1]
        places.append(place)
    return places
