"""The ground: what was, what would come, and all of it against a walk of the units one by one."""

import random
import unittest

from grounds import BAD_AMOUNTS, walk_row
from thawfront.errors import BadAmount, BadTimes, BadYear, TooManyLaid, UnknownBed, UnknownDeed, UnknownSeason
from thawfront.ground import Ground
from thawfront.rules import applied
from walks import BAD_TIMES, BEHIND_MOST, BELOW_ONE, MOST, YEARS, Deadline, WalkedGround, WalkedYear
from walks import do_deed, some_deed, some_ground, some_year, wrong_and_right

YEAR = [("warm", 9), ("cold", 4)]


def some_history():
    """Kept are: a warm season, a bed laid on, years, a cold season."""
    ground = Ground([5, 3], [1, 2])
    ground.warm(3)
    ground.lay(4)
    ground.years(YEAR, 3)
    ground.cold(2)
    return ground


class WhatWasTest(unittest.TestCase):
    def test_heats_behind_each_deed(self):
        ground = some_history()
        told = [ground.heats_behind(deed) for deed in range(5)]
        self.assertEqual(told, [[1, 2], [3, 3], [3, 3, 0], [5, 3, 0], [5, 1, 0]])

    def test_heats_within_each_deed(self):
        ground = some_history()
        self.assertEqual(ground.heats_within(1, 1, 1), [3, 3])
        told = [ground.heats_within(3, at_year, season) for at_year in (1, 2, 3) for season in (1, 2)]
        self.assertEqual(told, [[5, 3, 4], [5, 3, 0]] * 3)
        self.assertEqual(ground.heats_within(4, 1, 1), [5, 1, 0])

    def test_balance_within_each_deed(self):
        ground = some_history()
        self.assertEqual(ground.balance_within(1, 1, 1), (3, 3, 0))
        told = [ground.balance_within(3, at_year, season) for at_year in (1, 2, 3) for season in (1, 2)]
        self.assertEqual(told, [(3, 9, 0), (3, 9, 4), (3, 13, 4), (3, 13, 8), (3, 17, 8), (3, 17, 12)])
        self.assertEqual(ground.balance_within(4, 1, 1), (3, 17, 14))
        self.assertEqual(ground.balance(), (3, 17, 14))

    def test_the_kinds_that_are_told(self):
        ground = some_history()
        for number in (1, 3, 4):
            self.assertIs(type(ground.heats_behind(number)), list)
            self.assertIs(type(ground.heats_within(number, 1, 1)), list)
            told = ground.balance_within(number, 1, 1)
            self.assertIs(type(told), tuple)
            self.assertEqual([type(part) for part in told], [int, int, int])

    def test_unknown_deeds(self):
        ground = some_history()
        for deed in (-1, -2, -4, -5, 5, 6) + BEHIND_MOST + tuple(-far for far in BEHIND_MOST):
            with self.assertRaises(UnknownDeed):
                ground.heats_behind(deed)
        for deed in (0, -1, -2, -4, -5, 5, 6) + BEHIND_MOST + tuple(-far for far in BEHIND_MOST):
            for at_year, season in ((1, 1), (0, 1), (1, 0), (10 ** 5000, -1)):
                for question in (ground.heats_within, ground.balance_within):
                    with self.assertRaises(UnknownDeed):
                        question(deed, at_year, season)

    def test_a_ground_as_it_was_made_has_no_deed(self):
        ground = Ground([5, 3])
        self.assertEqual(ground.heats_behind(0), [0, 0])
        for deed in (-1, 1):
            with self.assertRaises(UnknownDeed):
                ground.heats_behind(deed)
        for deed in (-1, 0, 1):
            with self.assertRaises(UnknownDeed):
                ground.heats_within(deed, 1, 1)

    def test_a_deed_that_was_taken_back_is_unknown(self):
        ground = some_history()
        ground.take_back()
        self.assertEqual(ground.heats_behind(3), [5, 3, 0])
        with self.assertRaises(UnknownDeed):
            ground.heats_behind(4)
        with self.assertRaises(UnknownDeed):
            ground.heats_within(4, 1, 1)

    def check_unknown(self, ground, deed, at_year, season):
        for question in (ground.heats_within, ground.balance_within):
            with self.assertRaises(UnknownSeason):
                question(deed, at_year, season)

    def test_unknown_years_and_seasons(self):
        ground = some_history()
        for deed, times, seasons in ((1, 1, 1), (3, 3, 2), (4, 1, 1)):
            ground.heats_within(deed, times, seasons)
            ground.balance_within(deed, times, seasons)
            for at_year in BELOW_ONE + (-times, times + 1, times + 2, MOST) + BEHIND_MOST:
                self.check_unknown(ground, deed, at_year, 1)
                self.check_unknown(ground, deed, at_year, seasons + 1)
            for season in BELOW_ONE + (-seasons, seasons + 1, seasons + 2) + BEHIND_MOST:
                self.check_unknown(ground, deed, 1, season)
                self.check_unknown(ground, deed, times, season)

    def test_a_bed_laid_on_has_no_season(self):
        ground = some_history()
        for at_year in (1, 0, -1, 2, MOST) + BEHIND_MOST:
            for season in (1, 0, -1, 2, 10 ** 5000):
                self.check_unknown(ground, 2, at_year, season)

    def test_10_to_the_18_years_kept_and_asked_within(self):
        needs = [200] * 30
        ground = Ground(needs)
        for bed in range(20):
            ground.lay(200)
        year = [("warm", 100), ("cold", 100)] * 5 + [("warm", 100), ("cold", 99)]
        with Deadline():
            self.assertEqual(ground.years(year, MOST), (MOST - 9901, 0))
            self.assertEqual(ground.heats(), [200] * 49 + [101])
            self.assertEqual(ground.balance(), (0, 600 * MOST - (MOST - 9901), 599 * MOST))
            self.assertEqual(ground.heats_within(21, MOST, 12), ground.heats())
            self.assertEqual(ground.balance_within(21, MOST, 12), ground.balance())
            self.assertEqual(ground.heats_within(21, MOST, 11), [200] * 50)
            self.assertEqual(ground.heats_within(21, 1, 1), [0] * 49 + [100])
            self.assertEqual(ground.heats_within(21, 9900, 12), [199] + [200] * 48 + [101])
            self.assertEqual(ground.balance_within(21, 9900, 12), (0, 600 * 9900, 599 * 9900))
            self.assertEqual(ground.balance_within(21, 9902, 11), (0, 600 * 9902 - 1, 599 * 9901 + 500))
            self.check_unknown(ground, 21, MOST + 1, 1)
            self.check_unknown(ground, 21, MOST, 13)

    def test_questions_change_nothing(self):
        ground = some_history()
        before = [ground.needs(), ground.heats(), ground.balance(), ground.deeds()]
        for turn in range(2):
            ground.heats_within(3, 2, 1)
            ground.balance_within(3, 2, 1)
            ground.coming(YEAR, MOST, 2)
            ground.rest_year(YEAR)
            ground.first_thawed(1, YEAR)
            ground.rule(2, YEAR)
            ground.years_rule(2, YEAR, MOST)
            self.assertEqual([ground.needs(), ground.heats(), ground.balance(), ground.deeds()], before)


class WhatWouldComeTest(unittest.TestCase):
    def test_from_the_ground_as_it_is_now(self):
        ground = Ground([5, 3], [1, 2])
        self.assertEqual(ground.coming(YEAR, 1, 1), [5, 3])
        self.assertEqual(ground.rule(1, [("warm", 2)]), (2, 2, 8))
        self.assertEqual(ground.rule(2, [("warm", 2)]), (2, 2, 3))
        ground.lay(6)
        self.assertEqual(ground.coming(YEAR, 1, 1), [3, 3, 6])
        self.assertEqual(ground.rule(1, [("warm", 2)]), (2, 2, 14))
        self.assertEqual(ground.rule(2, [("warm", 2)]), (2, 2, 9))
        self.assertEqual(ground.rule(3, [("warm", 2)]), (2, 2, 6))
        self.assertEqual(ground.years_rule(3, YEAR, MOST), (5 * MOST, 2, 2))
        self.assertEqual(ground.years_rule(1, YEAR, 2), (10, 10, 10))
        self.assertEqual(ground.first_thawed(1, YEAR), (True, 2, 1))
        self.assertEqual(ground.rest_year(YEAR), 3)
        ground.warm(1000000)
        self.assertEqual(ground.first_thawed(1, YEAR), (True, 1, 1))
        self.assertEqual(ground.first_thawed(3, [("cold", 1)]), (False, 15, 0))
        ground.take_back()
        ground.take_back()
        self.assertEqual(ground.rule(1, [("warm", 2)]), (2, 2, 8))
        self.assertEqual(ground.coming(YEAR, 1, 1), [5, 3])

    def test_the_kinds_that_are_told(self):
        ground = some_history()
        for rule in (ground.rule(1, []), ground.rule(1, YEAR), ground.years_rule(1, YEAR, 5)):
            self.assertIs(type(rule), tuple)
            self.assertEqual([type(part) for part in rule], [int, int, int])
        self.assertIs(type(ground.coming(YEAR, 2, 1)), list)
        self.assertIs(type(ground.rest_year(YEAR)), int)
        for year in ([("warm", 20)], [("cold", 20)]):
            told = ground.first_thawed(1, year)
            self.assertEqual([type(part) for part in told], [bool, int, int])

    def check(self, due, question, *handed):
        if due is None:
            question(*handed)
        else:
            with self.assertRaises(due):
                question(*handed)

    def test_refusals(self):
        ground = some_history()
        beds = [(1, None), (3, None)] + [(bed, UnknownBed) for bed in BELOW_ONE + (-3, 4, 5) + BEHIND_MOST]
        rows = [([], None), (YEAR * 30, None)]
        for amount in BAD_AMOUNTS:
            rows += [([("warm", amount)], BadAmount), (YEAR * 29 + [("cold", amount)], BadAmount)]
        for (bed, row), due in wrong_and_right(beds, rows):
            self.check(due, ground.rule, bed, row)
        times = [(1, None), (MOST, None)] + [(each, BadTimes) for each in BAD_TIMES]
        for (bed, year, count), due in wrong_and_right(beds, YEARS, times):
            self.check(due, ground.years_rule, bed, year, count)
        for (bed, year), due in wrong_and_right(beds, YEARS):
            self.check(due, ground.first_thawed, bed, year)
        for year, due in YEARS:
            self.check(due, ground.rest_year, year)
        years = [(1, None), (MOST, None)] + [(each, UnknownSeason) for each in BELOW_ONE + BEHIND_MOST]
        seasons = [(1, None)] + [(each, UnknownSeason) for each in BELOW_ONE + (13,) + BEHIND_MOST]
        for (year, at_year, season), due in wrong_and_right(YEARS, years, seasons):
            self.check(due, ground.coming, year, at_year, season)
        with self.assertRaises(UnknownSeason):
            ground.coming(YEAR, 1, 3)
        with self.assertRaises(BadYear):
            ground.coming([], 1, 1)


class WalkTest(unittest.TestCase):
    """Point 27: a ground with a history against a walk of all units one by one."""

    def check_now(self, ground, walk):
        self.assertEqual(ground.needs(), walk.needs)
        self.assertEqual(ground.heats(), walk.heats)
        self.assertEqual(ground.balance(), walk.balance())
        self.assertEqual(sum(ground.heats()), walk.made + walk.room - walk.taken)
        self.assertEqual(ground.deeds(), [kept[0] for kept in walk.history])
        thawed = [bed for bed in range(1, len(walk.needs) + 1) if walk.heats[bed - 1] == walk.needs[bed - 1]]
        frozen = [bed for bed in range(1, len(walk.needs) + 1) if walk.heats[bed - 1] < walk.needs[bed - 1]]
        self.assertEqual(ground.thawed(), thawed)
        self.assertEqual(ground.front(), len(walk.needs) - max(frozen, default=0))
        for bed in range(1, len(walk.needs) + 1):
            self.assertEqual((ground.need(bed), ground.heat(bed)), (walk.needs[bed - 1], walk.heats[bed - 1]))
            self.assertEqual((ground.down_to(bed), ground.is_thawed(bed)), (sum(walk.heats[bed - 1:]), bed in thawed))

    def check_deed(self, ground, walk, deed):
        for at_year, season in walk.moments(deed):
            heats, balance = walk.within(deed, at_year, season)
            self.assertEqual(ground.heats_within(deed, at_year, season), heats)
            self.assertEqual(ground.balance_within(deed, at_year, season), balance)
            self.assertEqual(sum(heats), balance[0] + balance[1] - balance[2])

    def check_coming(self, ground, walk, chance):
        year = some_year(chance, 4, 12)
        ahead = WalkedYear(walk.needs, walk.heats, year)
        self.assertEqual(ground.rest_year(year), ahead.rest())
        for at_year in (1, 2, ahead.rest(), ahead.rest() + 1, MOST):
            season = chance.randint(1, len(year))
            self.assertEqual(ground.coming(year, at_year, season), ahead.at(at_year, season)[0])
        behind = walk_row(walk.needs, walk.heats, year)[0]
        last = ahead.at(MOST, len(year))[0]
        for bed in range(1, len(walk.needs) + 1):
            held = sum(walk.heats[bed - 1:])
            self.assertEqual(ground.first_thawed(bed, year), ahead.first(bed))
            self.assertEqual(applied(ground.rule(bed, year), held), sum(behind[bed - 1:]))
            self.assertEqual(applied(ground.years_rule(bed, year, MOST), held), sum(last[bed - 1:]))

    def test_histories(self):
        chance = random.Random(1)
        for turn in range(25):
            needs, heats = some_ground(chance, 4, 8)
            ground, walk = Ground(needs, heats), WalkedGround(needs, heats)
            for step in range(chance.randint(1, 40)):
                if walk.history and chance.random() < 0.2:
                    self.assertEqual(ground.take_back(), walk.take_back())
                else:
                    deed = some_deed(chance, 8, chance.choice((3, 12, 40)))
                    if deed[0] == "lay" and len(walk.needs) - len(needs) == 20:
                        with self.assertRaises(TooManyLaid):
                            ground.lay(deed[1])
                        continue
                    self.assertEqual(do_deed(ground, deed), walk.done(deed))
                    self.check_deed(ground, walk, len(walk.history))
                self.check_now(ground, walk)
            self.check_coming(ground, walk, chance)
            self.check_whole(ground, walk)
            while walk.history:
                self.assertEqual(ground.take_back(), walk.take_back())
                self.check_now(ground, walk)

    def check_whole(self, ground, walk):
        for deed in range(len(walk.history) + 1):
            self.assertEqual(ground.heats_behind(deed), walk.heats_behind(deed))
        for deed in range(1, len(walk.history) + 1):
            self.check_deed(ground, walk, deed)

    def test_300_deeds_over_30_beds(self):
        chance = random.Random(2)
        needs = [chance.randint(1, 6) for bed in range(30)]
        ground, walk = Ground(needs), WalkedGround(needs, [0] * 30)
        while len(walk.history) < 300:
            deed = some_deed(chance, 6, 30)
            if deed[0] == "lay" and len(walk.needs) == 50:
                continue
            self.assertEqual(do_deed(ground, deed), walk.done(deed))
            self.assertEqual(ground.balance(), walk.balance())
        self.assertEqual(len(ground.needs()), 50)
        self.check_now(ground, walk)
        self.check_whole(ground, walk)

    def test_slow_years_within_a_history(self):
        needs = [200, 3, 150, 90]
        ground, walk = Ground(needs), WalkedGround(needs, [0] * 4)
        slow = (("warm", 9), ("cold", 8))
        back = (("cold", 30), ("warm", 29), ("cold", 0))
        for deed in (("warm", 5), ("years", slow, 300), ("lay", 40), ("years", slow, MOST), ("years", back, 400)):
            self.assertEqual(do_deed(ground, deed), walk.done(deed))
            self.check_now(ground, walk)
        self.check_whole(ground, walk)


class GreaterWarmthTest(unittest.TestCase):
    def all_moments(self, needs, heats, deeds):
        """The heats behind each deed and at its seasons."""
        ground = Ground(needs, heats)
        for deed in deeds:
            do_deed(ground, deed)
        told = []
        for number, deed in enumerate(deeds, start=1):
            told.append(ground.heats_behind(number))
            if deed[0] == "years":
                years = sorted({each for each in (1, 2, 3, 9, deed[2] - 1, deed[2]) if 1 <= each <= deed[2]})
                for at_year in years:
                    for season in range(1, len(deed[1]) + 1):
                        told.append(ground.heats_within(number, at_year, season))
        return told

    def test_more_warmth_leaves_no_bed_with_less_heat(self):
        chance = random.Random(3)
        for turn in range(150):
            needs, heats = some_ground(chance, 5, 8)
            deeds = [some_deed(chance, 8, chance.choice((3, 12, 40))) for deed in range(10)]
            place = chance.randrange(10)
            amount = chance.randint(0, 30)
            less = self.all_moments(needs, heats, deeds[:place] + [("warm", amount)] + deeds[place:])
            more = chance.choice((amount + 1, amount + chance.randint(1, 40), 1000000))
            greater = self.all_moments(needs, heats, deeds[:place] + [("warm", more)] + deeds[place:])
            for one, other in zip(less, greater, strict=True):
                self.assertTrue(all(small <= great for small, great in zip(one, other, strict=True)))

    def test_more_warmth_within_a_year(self):
        chance = random.Random(4)
        for turn in range(150):
            needs, heats = some_ground(chance, 5, 8)
            year = some_year(chance, 4, 12) + [("warm", 4)]
            times = chance.choice((1, 3, 40, MOST))
            rest = [some_deed(chance, 8, 12) for deed in range(4)]
            less = self.all_moments(needs, heats, [("years", tuple(year), times)] + rest)
            more = year[:-1] + [("warm", 4 + chance.randint(1, 9))]
            greater = self.all_moments(needs, heats, [("years", tuple(more), times)] + rest)
            for one, other in zip(less, greater, strict=True):
                self.assertTrue(all(small <= great for small, great in zip(one, other, strict=True)))


if __name__ == "__main__":
    unittest.main()
