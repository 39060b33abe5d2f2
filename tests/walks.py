"""Walks of years and of whole grounds, unit by unit, to test against."""

import itertools
import signal

from grounds import FAR, heats_for, walk_row
from thawfront import errors

MOST = 10 ** 18
BEHIND_MOST = (MOST + 1, MOST + 2, 2 ** 60, 10 ** 19, 10 ** 30, 10 ** 5000)
BELOW_ONE = (0, -1, -2) + tuple(-far for far in FAR)
BAD_TIMES = BELOW_ONE + BEHIND_MOST

# The order of the refusals where several are due.
ORDER = (
    errors.UnknownBed, errors.UnknownDeed, errors.BadBeds, errors.BadNeed, errors.BadHeat, errors.BadYear,
    errors.BadAmount, errors.BadTimes, errors.UnknownSeason, errors.TooManyLaid, errors.TooManyDeeds,
    errors.NothingDone,
)

# Years that are handed in wrong or right, and the refusal that is due for each.
YEARS = (
    ([("warm", 3), ("cold", 2)], None),
    ([("warm", 1000000)] + [("cold", 0)] * 11, None),
    ([], errors.BadYear),
    ([("warm", 1)] * 13, errors.BadYear),
    ([("cold", 1)] * 200, errors.BadYear),
    ([("warm", -1)] * 13, errors.BadYear),
    ([("warm", 1)] * 13 + [("cold", 10 ** 5000)], errors.BadYear),
    ([("warm", -1)], errors.BadAmount),
    ([("warm", 3), ("cold", 1000001), ("warm", 1)], errors.BadAmount),
    ([("warm", 1)] * 11 + [("cold", -10 ** 5000)], errors.BadAmount),
)


def wrong_and_right(*choices):
    """Each way to choose one pair of a value and its refusal out of each of the lists: the values, what is due."""
    for pairs in itertools.product(*choices):
        due = [error for value, error in pairs if error is not None]
        yield [value for value, error in pairs], min(due, key=ORDER.index, default=None)


class Deadline:
    """Ends what would take for ever."""

    def __init__(self, seconds=60):
        self.seconds = seconds

    def __enter__(self):
        self.before = signal.signal(signal.SIGALRM, self.ring)
        signal.alarm(self.seconds)

    def __exit__(self, *error):
        signal.alarm(0)
        signal.signal(signal.SIGALRM, self.before)

    def ring(self, number, frame):
        raise AssertionError(f"not told within {self.seconds} seconds")


class WalkedYear:
    """A year that comes again and again, walked unit by unit until it ends as it began."""

    def __init__(self, needs, heats, year):
        self.needs = list(needs)
        self.begun = list(heats)
        self.year = list(year)
        # For each walked year and each of its seasons: the heats, and what found no room and no heat so far.
        self.walked = []
        now = (list(heats), 0, 0)
        while True:
            ahead = now
            seasons = []
            for season in year:
                heats, no_room, no_heat = walk_row(needs, now[0], [season])
                now = (heats, now[1] + no_room, now[2] + no_heat)
                seasons.append(now)
            self.walked.append(seasons)
            if now[0] == ahead[0]:
                break
        self.missed = (now[1] - ahead[1], now[2] - ahead[2])

    def rest(self):
        return len(self.walked)

    def at(self, at_year, season):
        walked = min(at_year, self.rest())
        more = at_year - walked
        heats, no_room, no_heat = self.walked[walked - 1][season - 1]
        return (heats, no_room + more * self.missed[0], no_heat + more * self.missed[1])

    def first(self, bed):
        for at_year, seasons in enumerate(self.walked, start=1):
            for season, moment in enumerate(seasons, start=1):
                if moment[0][bed - 1] == self.needs[bed - 1]:
                    return (True, at_year, season)
        return (False, self.rest(), 0)

    def amount(self, kind, at_year, season):
        whole = sum(amount for each, amount in self.year if each == kind)
        part = sum(amount for each, amount in self.year[:season] if each == kind)
        return (at_year - 1) * whole + part

    def room_and_taken(self, at_year, season):
        moment = self.at(at_year, season)
        return (
            self.amount("warm", at_year, season) - moment[1],
            self.amount("cold", at_year, season) - moment[2],
        )


class WalkedGround:
    """A ground as the units one by one make it. Each deed is kept with its walk and all that was ahead of it."""

    def __init__(self, needs, heats):
        self.needs = list(needs)
        self.heats = list(heats)
        self.made = sum(heats)
        self.room = 0
        self.taken = 0
        self.history = []

    def balance(self):
        return (self.made, self.room, self.taken)

    def keep(self, deed, walk, times):
        self.history.append((deed, walk, times, (list(self.needs), list(self.heats), self.room, self.taken)))

    def years(self, deed, year, times):
        walk = WalkedYear(self.needs, self.heats, year)
        self.keep(deed, walk, times)
        found, taken = walk.room_and_taken(times, len(year))
        self.heats, no_room, no_heat = walk.at(times, len(year))
        self.room += found
        self.taken += taken
        return (no_room, no_heat)

    def lay(self, need):
        self.keep(("lay", need), None, 0)
        self.needs = self.needs + [need]
        self.heats = self.heats + [0]
        return len(self.needs)

    def done(self, deed):
        if deed[0] == "lay":
            return self.lay(deed[1])
        if deed[0] == "years":
            return self.years(deed, list(deed[1]), deed[2])
        return self.years(deed, [deed], 1)[0 if deed[0] == "warm" else 1]

    def take_back(self):
        deed, walk, times, ahead = self.history.pop()
        self.needs, self.heats, self.room, self.taken = ahead
        return deed

    def heats_behind(self, deed):
        if deed == len(self.history):
            return self.heats
        return self.history[deed][3][1]

    def within(self, deed, at_year, season):
        """The heats and the balance at a season of a kept deed."""
        kept, walk, times, ahead = self.history[deed - 1]
        found, taken = walk.room_and_taken(at_year, season)
        return (walk.at(at_year, season)[0], (self.made, ahead[2] + found, ahead[3] + taken))

    def moments(self, deed):
        """Years and seasons of a kept deed: the first years, those about the resting one, the last."""
        kept, walk, times, ahead = self.history[deed - 1]
        if walk is None:
            return []
        near = [1, 2, 3, walk.rest() - 1, walk.rest(), walk.rest() + 1, times // 2, times - 1, times]
        years = sorted({each for each in near if 1 <= each <= times})
        return [(each, season) for each in years for season in range(1, len(walk.year) + 1)]


def do_deed(ground, deed):
    """Does to a ground of the program what a kept tuple tells."""
    if deed[0] == "years":
        return ground.years(list(deed[1]), deed[2])
    return {"warm": ground.warm, "cold": ground.cold, "lay": ground.lay}[deed[0]](deed[1])


def some_year(chance, most_seasons, most_amount):
    length = chance.randint(1, most_seasons)
    return [(chance.choice(("warm", "cold")), chance.randint(0, most_amount)) for season in range(length)]


def some_ground(chance, most_beds, most_need):
    needs = [chance.randint(1, most_need) for bed in range(chance.randint(1, most_beds))]
    return needs, heats_for(chance, needs)


def some_deed(chance, most_need, most_amount):
    kind = chance.choice(("warm", "warm", "cold", "cold", "years", "years", "lay"))
    if kind == "lay":
        return (kind, chance.randint(1, most_need))
    if kind == "years":
        times = chance.choice((1, 2, 3, chance.randint(1, 40), chance.randint(1, MOST), MOST))
        return (kind, tuple(some_year(chance, 4, most_amount)), times)
    return (kind, chance.randint(0, chance.choice((2, most_amount, 3 * most_amount))))


def slow_years():
    """Years that nearly make up for themselves, so that the resting year comes late."""
    fifty = [200] * 50
    yield fifty, [0] * 50, [("warm", 2), ("cold", 1)]
    yield fifty, [0] * 50, [("cold", 1), ("warm", 2)]
    yield fifty, list(fifty), [("warm", 1), ("cold", 2)]
    yield fifty, list(fifty), [("cold", 2), ("warm", 1)]
    yield fifty, [0] * 50, [("warm", 1)] * 6 + [("cold", 1)] * 5 + [("warm", 0)]
    yield [7, 200, 3, 150, 1, 90], [0] * 6, [("warm", 9), ("cold", 8)]
    yield [7, 200, 3, 150, 1, 90], [7, 200, 3, 150, 1, 90], [("cold", 30), ("warm", 29)]
    yield [7, 200, 3, 150, 1, 90], [3, 100, 0, 150, 1, 0], [("warm", 200), ("cold", 300), ("warm", 101)]
