"""years_passed, heats_at, rest_of and first_season."""

import random
import unittest

from grounds import BAD_AMOUNTS, large_grounds, small_grounds, walk_row
from thawfront.beds import passed
from thawfront.errors import BadAmount, BadTimes, BadYear, UnknownBed, UnknownSeason
from thawfront.years import first_season, heats_at, rest_of, years_passed
from walks import BAD_TIMES, BEHIND_MOST, BELOW_ONE, MOST, YEARS, Deadline, WalkedYear
from walks import slow_years, some_ground, some_year, wrong_and_right

GREAT = (11000, 2 ** 59 - 1, 2 ** 59, 2 ** 59 + 1, MOST - 1, MOST)
SMALL_YEARS = (
    [("warm", 0)], [("cold", 0)], [("warm", 1)], [("cold", 1)], [("warm", 9)], [("cold", 9)],
    [("warm", 1), ("cold", 1)], [("cold", 1), ("warm", 1)], [("warm", 2), ("cold", 1)], [("cold", 1), ("warm", 2)],
    [("warm", 1), ("cold", 2)], [("cold", 2), ("warm", 1)], [("warm", 9), ("cold", 9)], [("cold", 9), ("warm", 8)],
    [("warm", 3), ("cold", 9), ("warm", 5)], [("cold", 3), ("warm", 9), ("cold", 5)],
)


class WalkTest(unittest.TestCase):
    """What all four tell, against one walk."""

    def check(self, needs, heats, year, years):
        walk = WalkedYear(needs, heats, year)
        rest = walk.rest()
        self.assertLessEqual(rest, sum(needs) + 2)
        self.assertEqual(rest_of(needs, heats, year), rest, (needs, heats, year))
        for bed in range(1, len(needs) + 1):
            told = first_season(needs, heats, bed, year)
            self.assertEqual(told, walk.first(bed), (needs, heats, bed, year))
        near = {rest - 1, rest, rest + 1} - {0}
        for at_year in sorted(near.union(years)):
            told = years_passed(needs, heats, year, at_year)
            self.assertEqual(told, walk.at(at_year, len(year)), (needs, heats, year, at_year))
            for season in range(1, len(year) + 1):
                told = heats_at(needs, heats, year, at_year, season)
                self.assertEqual(told, walk.at(at_year, season)[0], (needs, heats, year, at_year, season))

    def test_small_grounds(self):
        for number, (needs, heats) in enumerate(small_grounds()):
            for year in SMALL_YEARS[number % 3::3]:
                self.check(needs, heats, year, (1, 2, MOST))

    def test_many_years(self):
        chance = random.Random(1)
        for turn in range(400):
            needs, heats = some_ground(chance, 6, 12)
            year = some_year(chance, 12, chance.choice((2, 5, 20, sum(needs) + 5)))
            self.check(needs, heats, year, (1, 2, 3, chance.randint(1, 30)) + GREAT)

    def test_years_that_nearly_make_up_for_themselves(self):
        chance = random.Random(2)
        for turn in range(150):
            needs, heats = some_ground(chance, 5, 30)
            amount = chance.randint(1, sum(needs))
            year = [("warm", amount + chance.randint(0, 2)), ("cold", amount + chance.randint(0, 2))]
            year = year * chance.randint(1, 2) + some_year(chance, 2, 2)
            self.check(needs, heats, year, (1, 2, 5, MOST))

    def test_years_that_both_fill_and_empty_the_ground(self):
        chance = random.Random(3)
        for turn in range(150):
            needs, heats = some_ground(chance, 4, 9)
            whole = sum(needs)
            year = [(kind, whole + chance.randint(-2, 3)) for kind in ("warm", "cold", "warm")]
            year = [(kind, max(amount, 0)) for kind, amount in year[chance.randint(0, 1):]]
            self.check(needs, heats, year + some_year(chance, 3, 4), (1, 2, 3) + GREAT)

    def test_large_grounds(self):
        chance = random.Random(4)
        for needs, heats in large_grounds():
            step = max(1, sum(needs) // 10)
            year = [("warm", chance.randint(0, 3 * step)), ("cold", chance.randint(0, 3 * step)), ("warm", 1)]
            self.check(needs, heats, year, (1, 2, 3, MOST))

    def test_slow_years(self):
        with Deadline(300):
            for needs, heats, year in slow_years():
                self.check(needs, heats, year, (1, 2, 3, 100, 5000) + GREAT)


class FewYearsTest(unittest.TestCase):
    """A few years against passing each season one by one."""

    def test_each_season_one_by_one(self):
        chance = random.Random(5)
        for turn in range(150):
            needs, heats = some_ground(chance, 5, 9)
            year = some_year(chance, 5, chance.choice((2, 9, 60)))
            row = []
            for at_year in range(1, 8):
                for season in range(1, len(year) + 1):
                    row.append(year[season - 1])
                    self.assertEqual(heats_at(needs, heats, year, at_year, season), walk_row(needs, heats, row)[0])
                self.assertEqual(years_passed(needs, heats, year, at_year), walk_row(needs, heats, row))

    def test_one_time_is_the_row_of_the_year(self):
        for needs, heats in large_grounds():
            for year in ([("warm", 700)], [("cold", 1000000), ("warm", 1000000)], [("cold", 5), ("warm", 7)] * 6):
                self.assertEqual(years_passed(needs, heats, year, 1), passed(needs, heats, year))

    def test_in_two_parts(self):
        chance = random.Random(6)
        for turn in range(100):
            needs, heats = some_ground(chance, 30, 200)
            year = some_year(chance, 12, chance.choice((5, 100, 3000)))
            first = chance.choice((1, 2, chance.randint(1, 300), chance.randint(1, MOST - 1)))
            second = chance.choice((1, 2, chance.randint(1, 300), MOST - first))
            half, no_room, no_heat = years_passed(needs, heats, year, first)
            behind, more_room, more_heat = years_passed(needs, half, year, second)
            whole = years_passed(needs, heats, year, first + second)
            self.assertEqual(whole, (behind, no_room + more_room, no_heat + more_heat))

    def test_told_numbers(self):
        year = [("warm", 9), ("cold", 4)]
        self.assertEqual(years_passed([5, 3, 4], [0, 0, 0], year, 1), ([2, 3, 0], 0, 0))
        self.assertEqual(years_passed([5, 3, 4], [0, 0, 0], year, 2), ([5, 3, 0], 2, 0))
        self.assertEqual(years_passed([5, 3, 4], [0, 0, 0], year, MOST), ([5, 3, 0], 2 + 5 * (MOST - 2), 0))
        self.assertEqual(heats_at([5, 3, 4], [0, 0, 0], year, 1, 1), [2, 3, 4])
        self.assertEqual(heats_at([5, 3, 4], [0, 0, 0], year, MOST, 1), [5, 3, 4])
        self.assertEqual(rest_of([5, 3, 4], [0, 0, 0], year), 3)
        self.assertEqual(first_season([5, 3, 4], [0, 0, 0], 1, year), (True, 2, 1))

    def test_missed_both_ways_each_year(self):
        year = [("warm", 20), ("cold", 30)]
        self.assertEqual(years_passed([5], [2], year, MOST), ([0], 17 + 15 * (MOST - 1), 25 * MOST))
        year = [("cold", 30), ("warm", 20)]
        self.assertEqual(years_passed([5], [2], year, MOST), ([5], 15 * MOST, 28 + 25 * (MOST - 1)))

    def test_the_first_year_misses_what_no_later_one_does(self):
        self.assertEqual(years_passed([50], [0], [("cold", 9), ("warm", 10)], 3), ([12], 0, 9))
        self.assertEqual(years_passed([50], [50], [("warm", 9), ("cold", 10)], 3), ([38], 9, 0))

    def test_the_greatest_amounts(self):
        year = [("warm", 1000000), ("cold", 1000000)] * 6
        told = years_passed([200] * 50, [0] * 50, year, MOST)
        missed = 6 * 990000 * MOST
        self.assertEqual(told, ([0] * 50, missed, missed))

    def test_the_kinds_that_are_told(self):
        for times in (1, 2, 3, MOST):
            told = years_passed([3, 4], [1, 2], [("warm", 2), ("cold", 3)], times)
            self.assertIs(type(told), tuple)
            self.assertEqual([type(part) for part in told], [list, int, int])
            self.assertEqual([type(heat) for heat in told[0]], [int, int])
            told = heats_at([3, 4], [1, 2], [("warm", 2), ("cold", 3)], times, 1)
            self.assertIs(type(told), list)
            self.assertEqual([type(heat) for heat in told], [int, int])
        self.assertIs(type(rest_of([3, 4], [1, 2], [("warm", 1)])), int)
        for year in ([("warm", 9)], [("cold", 9)]):
            told = first_season([3, 4], [1, 2], 1, year)
            self.assertIs(type(told), tuple)
            self.assertEqual([type(part) for part in told], [bool, int, int])


class RestTest(unittest.TestCase):
    def test_the_first_year_may_rest(self):
        self.assertEqual(rest_of([5, 3], [2, 1], [("warm", 0)]), 1)
        self.assertEqual(rest_of([5, 3], [5, 3], [("warm", 7)]), 1)
        self.assertEqual(rest_of([5, 3], [0, 0], [("cold", 7)]), 1)
        self.assertEqual(rest_of([5, 3], [2, 3], [("cold", 2), ("warm", 2)]), 1)

    def test_the_same_sum_in_other_beds_is_no_rest(self):
        self.assertEqual(heats_at([5, 3], [2, 3], [("warm", 1), ("cold", 1)], 1, 2), [3, 2])
        self.assertEqual(rest_of([5, 3], [2, 3], [("warm", 1), ("cold", 1)]), 2)

    def test_as_late_as_it_can_be(self):
        for needs in ([1], [2], [7, 3], [200] * 50):
            whole = sum(needs)
            count = len(needs)
            self.assertEqual(rest_of(needs, [0] * count, [("warm", 1)]), whole + 1)
            self.assertEqual(rest_of(needs, needs, [("cold", 1)]), whole + 1)
        self.assertEqual(rest_of([200] * 50, [0] * 50, [("warm", 2), ("cold", 1)]), 10000)

    def test_the_latest_of_all_small_years_is_within_the_bound(self):
        for needs, heats in small_grounds():
            for year in SMALL_YEARS:
                rest = rest_of(needs, heats, year)
                self.assertLessEqual(rest, sum(needs) + 2)
                ahead = heats if rest == 1 else years_passed(needs, heats, year, rest - 1)[0]
                self.assertEqual(years_passed(needs, heats, year, rest)[0], ahead)


class FirstSeasonTest(unittest.TestCase):
    def test_thawed_now_but_at_the_end_of_no_season(self):
        year = [("cold", 2), ("warm", 1)]
        self.assertEqual(first_season([9, 3], [9, 3], 2, year), (False, rest_of([9, 3], [9, 3], year), 0))
        self.assertEqual(first_season([4], [4], 1, [("cold", 1)]), (False, 5, 0))
        self.assertEqual(first_season([4], [4], 1, [("cold", 9), ("warm", 3)]), (False, 2, 0))

    def test_thawed_now_and_at_the_first_season(self):
        self.assertEqual(first_season([9, 3], [9, 3], 1, [("cold", 2), ("warm", 1)]), (True, 1, 1))
        self.assertEqual(first_season([9, 3], [9, 3], 2, [("warm", 0)]), (True, 1, 1))

    def test_not_thawed_through_between_the_ends_of_seasons(self):
        year = [("warm", 2), ("cold", 1), ("warm", 1)]
        self.assertEqual(first_season([4], [0], 1, year), (True, 2, 1))

    def test_the_resting_year_of_all_beds_is_told(self):
        # The topmost bed rests at once, the ground beneath it much later.
        year = [("warm", 2), ("cold", 1)]
        self.assertEqual(rest_of([100, 1], [0, 0], year), 101)
        self.assertEqual(first_season([100, 1], [0, 0], 2, year), (True, 1, 1))
        year = [("cold", 1), ("warm", 2), ("cold", 1), ("warm", 0)]
        self.assertEqual(first_season([100, 9], [50, 0], 2, year), (False, rest_of([100, 9], [50, 0], year), 0))
        year = [("cold", 3), ("warm", 2)]
        self.assertEqual(rest_of([100, 9], [50, 0], year), 49)
        self.assertEqual(first_season([100, 9], [50, 0], 2, year), (False, 49, 0))

    def test_in_the_resting_year_itself(self):
        year = [("warm", 3), ("cold", 9), ("warm", 2)]
        self.assertEqual(rest_of([5], [0], year), 2)
        self.assertEqual(first_season([5], [0], 1, year), (True, 2, 1))
        year = [("warm", 3), ("warm", 2), ("cold", 5)]
        self.assertEqual(rest_of([5], [0], year), 1)
        self.assertEqual(first_season([5], [0], 1, year), (True, 1, 2))

    def test_the_told_season_is_the_first(self):
        chance = random.Random(7)
        for turn in range(150):
            needs, heats = some_ground(chance, 5, 20)
            year = some_year(chance, 4, chance.choice((3, 12, 40)))
            bed = chance.randint(1, len(needs))
            found, told_year, told_season = first_season(needs, heats, bed, year)
            last = told_year if found else sum(needs) + 3
            for at_year in range(1, last + 1):
                for season in range(1, len(year) + 1):
                    is_told = found and (at_year, season) == (told_year, told_season)
                    thawed = heats_at(needs, heats, year, at_year, season)[bed - 1] == needs[bed - 1]
                    self.assertEqual(thawed, is_told)
                    if is_told:
                        break

    def test_the_slowest_bed_of_all(self):
        year = [("warm", 50), ("cold", 50)] * 5 + [("warm", 50), ("cold", 49)]
        with Deadline():
            self.assertEqual(first_season([200] * 50, [0] * 50, 1, year), (True, 9951, 1))
            self.assertEqual(first_season([200] * 50, [0] * 50, 50, year), (True, 151, 1))


class GreatTest(unittest.TestCase):
    def test_10_to_the_18_years_of_50_beds_and_12_seasons(self):
        needs = [200] * 50
        year = [("warm", 100), ("cold", 100)] * 5 + [("warm", 100), ("cold", 99)]
        with Deadline():
            rest = rest_of(needs, [0] * 50, year)
            self.assertEqual(rest, 9902)
            behind, no_room, no_heat = years_passed(needs, [0] * 50, year, 11000)
            self.assertEqual(behind, [200] * 49 + [101])
            self.assertEqual((no_room, no_heat), (11000 - 9901, 0))
            told = years_passed(needs, [0] * 50, year, MOST)
            self.assertEqual(told, (behind, MOST - 9901, 0))
            for season in range(1, 13):
                told = heats_at(needs, [0] * 50, year, MOST, season)
                self.assertEqual(told, heats_at(needs, [0] * 50, year, 11000, season))


class RefusalTest(unittest.TestCase):
    def check(self, due, function, *handed):
        if due is None:
            function(*handed)
        else:
            with self.assertRaises(due):
                function(*handed)

    def test_bad_years(self):
        for length in (0, 13, 14, 200):
            year = [("warm", 1)] * length
            self.check(BadYear, years_passed, [3], [1], year, 1)
            self.check(BadYear, heats_at, [3], [1], year, 1, 1)
            self.check(BadYear, rest_of, [3], [1], year)
            self.check(BadYear, first_season, [3], [1], 1, year)

    def test_bad_amounts(self):
        for amount in BAD_AMOUNTS:
            for place in range(12):
                year = [("warm", 1), ("cold", 1)] * 6
                year[place] = (year[place][0], amount)
                self.check(BadAmount, years_passed, [3], [1], year, 1)
                self.check(BadAmount, heats_at, [3], [1], year, 1, 1)
                self.check(BadAmount, rest_of, [3], [1], year)
                self.check(BadAmount, first_season, [3], [1], 1, year)

    def test_years_passed(self):
        times = [(1, None), (MOST, None)] + [(each, BadTimes) for each in BAD_TIMES]
        for (year, count), due in wrong_and_right(YEARS, times):
            self.check(due, years_passed, [3, 4], [1, 2], year, count)

    def test_heats_at(self):
        years = [(1, None), (2, None), (MOST, None)] + [(each, UnknownSeason) for each in BELOW_ONE + BEHIND_MOST]
        for (year, at_year), due in wrong_and_right(YEARS, years):
            self.check(due, heats_at, [3, 4], [1, 2], year, at_year, 1)
        for length in (1, 2, 11, 12):
            year = [("warm", 1)] * length
            self.check(None, heats_at, [3, 4], [1, 2], year, MOST, length)
            for season in BELOW_ONE + (-length, length + 1, length + 2) + BEHIND_MOST:
                for at_year in (1, MOST, 0, MOST + 1):
                    self.check(UnknownSeason, heats_at, [3, 4], [1, 2], year, at_year, season)
        for year, due in YEARS:
            if due is not None:
                self.check(due, heats_at, [3, 4], [1, 2], year, 1, 0)
                self.check(due, heats_at, [3, 4], [1, 2], year, 0, 99)

    def test_rest_of(self):
        for year, due in YEARS:
            self.check(due, rest_of, [3, 4], [1, 2], year)

    def test_first_season(self):
        for count in (1, 2, 50):
            wrong = BELOW_ONE + (-count, count + 1, count + 2) + BEHIND_MOST
            beds = [(1, None), (count, None)] + [(bed, UnknownBed) for bed in wrong]
            for (bed, year), due in wrong_and_right(beds, YEARS):
                self.check(due, first_season, [3] * count, [1] * count, bed, year)


if __name__ == "__main__":
    unittest.main()
