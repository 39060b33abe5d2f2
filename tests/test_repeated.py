"""repeated and year_rule."""

import random
import unittest

from grounds import BAD_AMOUNTS
from thawfront.errors import BadAmount, BadTimes, BadYear
from thawfront.rules import applied, joined, repeated, row_rule, year_rule
from walks import BAD_TIMES, MOST, YEARS, Deadline, WalkedYear, some_year, wrong_and_right

GREAT = (2 ** 59 - 1, 2 ** 59, 2 ** 59 + 1, MOST - 1, MOST)


def rules():
    for add in (-1000, -7, -2, -1, 0, 1, 2, 7, 1000):
        for least in (-30, -1, 0, 5):
            for wide in (0, 1, 6, 100):
                yield (add, least, least + wide)


def ends(rule, times):
    """A rule repeated, as its two ends go on by the add until they come to the other."""
    add, least, most = rule
    rise = max(add, 0) * (times - 1)
    fall = min(add, 0) * (times - 1)
    return (times * add, min(least + rise, most), max(most + fall, least))


class RepeatedTest(unittest.TestCase):
    def test_few_times_against_joining_one_by_one(self):
        for rule in rules():
            one_by_one = rule
            for times in range(1, 41):
                self.assertEqual(repeated(rule, times), one_by_one)
                one_by_one = joined(one_by_one, rule)

    def test_rules_of_any_size(self):
        chance = random.Random(1)
        for turn in range(200):
            most = chance.choice((10, 10 ** 18, 10 ** 40))
            least = chance.randint(-most, most)
            rule = (chance.randint(-most, most), least, least + chance.randint(0, most))
            one_by_one = rule
            for times in range(1, 20):
                self.assertEqual(repeated(rule, times), one_by_one)
                one_by_one = joined(one_by_one, rule)

    def test_great_times(self):
        with Deadline():
            for rule in rules():
                for times in GREAT + (41, 1000, 10 ** 9):
                    self.assertEqual(repeated(rule, times), ends(rule, times))

    def test_great_times_that_do_not_come_to_an_end(self):
        far = 10 ** 20
        for times in GREAT:
            self.assertEqual(repeated((3, -far, far), times), (3 * times, -far + 3 * (times - 1), far))
            self.assertEqual(repeated((-3, -far, far), times), (-3 * times, -far, far - 3 * (times - 1)))
            self.assertEqual(repeated((0, -far, far), times), (0, -far, far))

    def test_one_time_more_is_joined_once_more(self):
        far = 10 ** 20
        for rule in ((1, -far, far), (-1, -far, far), (2, 0, 5), (-2, 0, 5), (0, 3, 3)):
            for times in (2 ** 59 - 1, 2 ** 59, MOST - 1):
                self.assertEqual(repeated(rule, times + 1), joined(repeated(rule, times), rule))
                self.assertEqual(repeated(rule, times + 1), joined(rule, repeated(rule, times)))

    def test_the_kinds_that_are_told(self):
        for times in (1, 2, 3, MOST):
            told = repeated((1, 0, 9), times)
            self.assertIs(type(told), tuple)
            self.assertEqual([type(part) for part in told], [int, int, int])

    def test_bad_times_are_refused(self):
        for rule in ((1, 0, 9), (0, 0, 0), (-10 ** 30, -5, 5)):
            for times in BAD_TIMES:
                with self.assertRaises(BadTimes):
                    repeated(rule, times)


class YearRuleTest(unittest.TestCase):
    def test_few_times_against_one_row(self):
        chance = random.Random(2)
        for turn in range(100):
            full = chance.choice((0, 1, chance.randint(0, 60), 10000))
            year = some_year(chance, 12, chance.choice((3, 30, 1000)))
            for times in (1, 2, 3, 5, 30):
                self.assertEqual(year_rule(full, year, times), row_rule(full, year * times))

    def test_great_times_against_the_walk(self):
        chance = random.Random(3)
        for turn in range(100):
            full = chance.randint(1, 40)
            year = some_year(chance, 5, chance.choice((3, 15, 60)))
            walks = [WalkedYear([full], [heat], year) for heat in (0, full, full // 2, chance.randint(0, full))]
            add = sum(amount if kind == "warm" else -amount for kind, amount in year)
            for times in (1, 2, 7, full + 2) + GREAT:
                rule = year_rule(full, year, times)
                behind = [walk.at(times, len(year))[0][0] for walk in walks]
                self.assertEqual(rule, (times * add, behind[0], behind[1]))
                self.assertEqual([applied(rule, walk.begun[0]) for walk in walks], behind)

    def test_a_year_is_the_rule_of_its_row_repeated(self):
        year = [("warm", 50), ("cold", 49), ("warm", 1), ("cold", 1)]
        for full in (0, 30, 49, 50, 51, 10000):
            for times in (1, 2, 5000, 11000) + GREAT:
                self.assertEqual(year_rule(full, year, times), repeated(row_rule(full, year), times))
                self.assertEqual(year_rule(full, year, times), ends(row_rule(full, year), times))

    def test_years_of_one_and_of_twelve_seasons(self):
        self.assertEqual(year_rule(10, [("warm", 4)], 2), (8, 8, 10))
        self.assertEqual(year_rule(10, [("warm", 1)] * 12, 1), (12, 10, 10))
        self.assertEqual(year_rule(10, [("cold", 1)] * 12, MOST), (-12 * MOST, 0, 0))

    def test_each_refusal(self):
        for times in BAD_TIMES:
            with self.assertRaises(BadTimes):
                year_rule(10, [("warm", 1)], times)
        for length in (0, 13, 14, 200):
            with self.assertRaises(BadYear):
                year_rule(10, [("warm", 1)] * length, 1)
        for amount in BAD_AMOUNTS:
            for place in range(12):
                year = [("warm", 1), ("cold", 1)] * 6
                year[place] = (year[place][0], amount)
                with self.assertRaises(BadAmount):
                    year_rule(10, year, 1)

    def test_of_several_refusals_the_first_one_comes(self):
        times = [(1, None), (MOST, None)] + [(each, BadTimes) for each in BAD_TIMES]
        for (year, count), due in wrong_and_right(YEARS, times):
            if due is None:
                year_rule(10, year, count)
            else:
                with self.assertRaises(due):
                    year_rule(10, year, count)


if __name__ == "__main__":
    unittest.main()
