"""Grounds to test with, and a walk of the units one by one."""

import itertools
import random

FAR = (10 ** 9, 10 ** 18, 10 ** 30, 10 ** 5000)
BAD_AMOUNTS = (-1, -2, 1000001, 1000002) + FAR + tuple(-far for far in FAR)


def walk_warm(needs, heats, amount):
    heats = list(heats)
    no_room = 0
    for unit in range(amount):
        place = len(heats) - 1
        while place >= 0 and heats[place] == needs[place]:
            place -= 1
        if place >= 0:
            heats[place] += 1
        else:
            no_room += 1
    return (heats, no_room)


def walk_cold(needs, heats, amount):
    heats = list(heats)
    no_heat = 0
    for unit in range(amount):
        place = len(heats) - 1
        while place >= 0 and heats[place] == 0:
            place -= 1
        if place >= 0:
            heats[place] -= 1
        else:
            no_heat += 1
    return (heats, no_heat)


def walk_row(needs, heats, seasons):
    no_room = 0
    no_heat = 0
    for kind, amount in seasons:
        if kind == "warm":
            heats, missed = walk_warm(needs, heats, amount)
            no_room += missed
        else:
            heats, missed = walk_cold(needs, heats, amount)
            no_heat += missed
    return (list(heats), no_room, no_heat)


def small_grounds():
    """Every ground of 1 to 3 beds with needs from 1 to 3."""
    for count in (1, 2, 3):
        for needs in itertools.product((1, 2, 3), repeat=count):
            for heats in itertools.product(*[range(need + 1) for need in needs]):
                yield list(needs), list(heats)


def heats_for(chance, needs):
    """Frozen, thawed through and half thawed beds, mixed."""
    return [chance.choice((0, need, chance.randint(0, need))) for need in needs]


def large_grounds():
    """Grounds of up to 50 beds: all frozen, all thawed through, mixed."""
    chance = random.Random(20)
    for count in (1, 2, 3, 7, 30, 49, 50):
        for most in (1, 5, 200):
            needs = [chance.randint(1, most) for bed in range(count)]
            yield needs, [0] * count
            yield needs, list(needs)
            for turn in range(3):
                yield needs, heats_for(chance, needs)
    yield [200] * 50, [0] * 50
    yield [200] * 50, [200] * 50
    yield [1] * 50, [0, 1] * 25
