"""Beds from the lowest up, the heat in them, and the seasons that pass over them."""

from thawfront.checks import check_amount, check_bed


# A bed stays the topmost one that can take part until it can do so no more, so
# the units are shared out bed by bed and need no walk one by one.
def shared_from_top(limits, amount):
    shares = list(limits)
    left = amount
    for place in range(len(limits) - 1, -1, -1):
        shares[place] = min(left, limits[place])
        left = left - shares[place]
    return (shares, left)


def warmed(needs, heats, amount):
    check_amount(amount)
    rooms = [need - heat for need, heat in zip(needs, heats)]
    shared = shared_from_top(rooms, amount)
    return ([heat + share for heat, share in zip(heats, shared[0])], shared[1])


# The needs stand here only so that both seasons are called alike.
def chilled(needs, heats, amount):
    check_amount(amount)
    shared = shared_from_top(heats, amount)
    return ([heat - share for heat, share in zip(heats, shared[0])], shared[1])


def passed(needs, heats, seasons):
    now = list(heats)
    no_room = 0
    no_heat = 0
    for kind, amount in seasons:
        if kind == "warm":
            behind = warmed(needs, now, amount)
            no_room = no_room + behind[1]
        else:
            behind = chilled(needs, now, amount)
            no_heat = no_heat + behind[1]
        now = behind[0]
    return (now, no_room, no_heat)


def heat_down_to(heats, bed):
    check_bed(len(heats), bed)
    return sum(heats[bed - 1:])


def thawed_beds(needs, heats):
    return [place + 1 for place in range(len(needs)) if heats[place] == needs[place]]


def front_of(needs, heats):
    front = 0
    for place in range(len(needs) - 1, -1, -1):
        if heats[place] != needs[place]:
            break
        front = front + 1
    return front
