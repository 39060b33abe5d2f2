"""still, applied, joined, season_rule and row_rule."""

import random
import unittest

from grounds import BAD_AMOUNTS, FAR, heats_for, large_grounds, walk_row
from thawfront.errors import BadAmount
from thawfront.rules import applied, joined, row_rule, season_rule, still


def some_number(chance):
    most = chance.choice((3, 10, 1000, 10 ** 18, 10 ** 40))
    return chance.randint(-most, most)


def some_rule(chance):
    least = some_number(chance)
    return (some_number(chance), least, least + chance.choice((0, 1, abs(some_number(chance)))))


def small_rules():
    for add in (-3, -1, 0, 1, 2):
        for least in (-2, 0, 1):
            for wide in (0, 1, 4):
                yield (add, least, least + wide)


def some_row(chance, length, most):
    return [(chance.choice(("warm", "cold")), chance.randint(0, most)) for season in range(length)]


def walked(full, heat, row):
    """The heat behind a row where one bed alone makes up the depth."""
    if full == 0:
        return 0
    return walk_row([full], [heat], row)[0][0]


class AppliedTest(unittest.TestCase):
    def test_at_and_beside_the_least_and_the_most(self):
        rule = (5, 10, 20)
        told = [applied(rule, heat) for heat in (-100, 3, 4, 5, 6, 7, 14, 15, 16, 17, 900)]
        self.assertEqual(told, [10, 10, 10, 10, 11, 12, 19, 20, 20, 20, 20])

    def test_below_nought(self):
        rule = (-5, -20, -10)
        told = [applied(rule, heat) for heat in (-16, -15, -14, -6, -5, -4, 0, 8)]
        self.assertEqual(told, [-20, -20, -19, -11, -10, -10, -10, -10])

    def test_least_and_most_equal(self):
        for bound in (-7, 0, 7):
            for heat in (-9, -8, -7, -6, 0, 6, 7, 8):
                self.assertEqual(applied((1, bound, bound), heat), bound)

    def test_numbers_of_any_size(self):
        for far in FAR:
            self.assertEqual(applied((far, -far, 3 * far), far), 2 * far)
            self.assertEqual(applied((far, -far, 3 * far), 2 * far + 1), 3 * far)
            self.assertEqual(applied((-far, -far, far), -1), -far)
            self.assertEqual(applied((-far, -far - 1, far), -1), -far - 1)
            self.assertEqual(applied((0, 0, 5), far), 5)
            self.assertEqual(applied((0, 0, 5), -far), 0)

    def test_many_rules(self):
        chance = random.Random(1)
        for turn in range(3000):
            add, least, most = some_rule(chance)
            heat = chance.choice((some_number(chance), least - add, most - add)) + chance.randint(-1, 1)
            told = applied((add, least, most), heat)
            self.assertEqual(told, sorted((least, heat + add, most))[1])
            self.assertIs(type(told), int)


class JoinedTest(unittest.TestCase):
    def check(self, first, second, heats):
        rule = joined(first, second)
        self.assertIs(type(rule), tuple)
        self.assertEqual([type(part) for part in rule], [int, int, int])
        self.assertEqual(rule[0], first[0] + second[0])
        self.assertEqual(rule[1:], (applied(second, first[1]), applied(second, first[2])))
        self.assertLessEqual(rule[1], rule[2])
        for heat in heats:
            if applied(rule, heat) != applied(second, applied(first, heat)):
                self.fail(f"{first} joined with {second} makes {applied(rule, heat)} of {heat}")

    def test_one_pair(self):
        self.assertEqual(joined((4, 2, 9), (-6, 0, 5)), (-2, 0, 3))
        self.assertEqual(joined((-6, 0, 5), (4, 2, 9)), (-2, 4, 9))

    def test_small_rules_at_each_number(self):
        for first in small_rules():
            for second in small_rules():
                self.check(first, second, range(-12, 13))

    def test_rules_of_any_size(self):
        chance = random.Random(2)
        for turn in range(2000):
            first = some_rule(chance)
            second = some_rule(chance)
            edges = [first[1] - first[0], first[2] - first[0], second[1] - second[0] - first[0]]
            heats = [edge + step for edge in edges for step in (-1, 0, 1)] + [some_number(chance)]
            self.check(first, second, heats)

    def test_any_grouping_is_one_rule(self):
        chance = random.Random(3)
        for turn in range(500):
            rules = [some_rule(chance) for each in range(chance.randint(3, 9))]
            one_by_one = rules[0]
            for rule in rules[1:]:
                one_by_one = joined(one_by_one, rule)
            while len(rules) > 1:
                place = chance.randrange(len(rules) - 1)
                rules[place:place + 2] = [joined(rules[place], rules[place + 1])]
            self.assertEqual(rules[0], one_by_one)


class SeasonRuleTest(unittest.TestCase):
    def test_the_still_rule(self):
        for full in (0, 1, 7, 9999, 10000):
            self.assertEqual(still(full), (0, 0, full))
            self.assertIs(type(still(full)), tuple)
            for heat in (0, full // 2, full):
                self.assertEqual(applied(still(full), heat), heat)

    def test_one_season(self):
        self.assertEqual(season_rule(10, ("warm", 4)), (4, 4, 10))
        self.assertEqual(season_rule(10, ("warm", 10)), (10, 10, 10))
        self.assertEqual(season_rule(10, ("warm", 11)), (11, 10, 10))
        self.assertEqual(season_rule(10, ("warm", 0)), (0, 0, 10))
        self.assertEqual(season_rule(10, ("cold", 4)), (-4, 0, 6))
        self.assertEqual(season_rule(10, ("cold", 10)), (-10, 0, 0))
        self.assertEqual(season_rule(10, ("cold", 11)), (-11, 0, 0))
        self.assertEqual(season_rule(10, ("cold", 0)), (0, 0, 10))

    def test_the_greatest_amount_and_depth(self):
        self.assertEqual(season_rule(10000, ("warm", 1000000)), (1000000, 10000, 10000))
        self.assertEqual(season_rule(10000, ("cold", 1000000)), (-1000000, 0, 0))
        self.assertEqual(season_rule(10000, ("warm", 9999)), (9999, 9999, 10000))
        self.assertEqual(season_rule(10000, ("cold", 9999)), (-9999, 0, 1))
        self.assertEqual(season_rule(0, ("warm", 1000000)), (1000000, 0, 0))
        self.assertEqual(season_rule(0, ("cold", 1000000)), (-1000000, 0, 0))

    def test_each_small_depth_and_amount_against_the_walk(self):
        for full in range(9):
            for amount in range(full + 3):
                for kind, sign in (("warm", 1), ("cold", -1)):
                    season = (kind, amount)
                    rule = season_rule(full, season)
                    ends = (walked(full, 0, [season]), walked(full, full, [season]))
                    self.assertEqual(rule, (sign * amount,) + ends)
                    self.assertEqual(row_rule(full, [season]), rule)
                    for heat in range(full + 1):
                        self.assertEqual(applied(rule, heat), walked(full, heat, [season]))

    def test_bad_amounts_are_refused(self):
        for full in (0, 1, 10000):
            for kind in ("warm", "cold"):
                for amount in BAD_AMOUNTS:
                    with self.assertRaises(BadAmount):
                        season_rule(full, (kind, amount))


class RowRuleTest(unittest.TestCase):
    def check(self, full, row, heats):
        rule = row_rule(full, row)
        self.assertIs(type(rule), tuple)
        add = sum(amount if kind == "warm" else -amount for kind, amount in row)
        self.assertEqual(rule, (add, walked(full, 0, row), walked(full, full, row)))
        for heat in heats:
            self.assertEqual(applied(rule, heat), walked(full, heat, row))

    def test_no_season(self):
        for full in (0, 1, 5, 10000):
            self.assertEqual(row_rule(full, []), (0, 0, full))

    def test_small_depths_from_each_heat(self):
        chance = random.Random(4)
        for turn in range(400):
            full = chance.randint(0, 12)
            row = some_row(chance, chance.randint(0, 6), chance.choice((2, 6, 20)))
            self.check(full, row, range(full + 1))

    def test_rows_of_up_to_60_seasons(self):
        chance = random.Random(5)
        for length in (0, 1, 2, 12, 59, 60):
            for full in (0, 1, 40, 700):
                row = some_row(chance, length, chance.choice((5, 50, 300)))
                self.check(full, row, [chance.randint(0, full) for turn in range(4)])

    def test_deep_and_great(self):
        row = [("warm", 1000000), ("cold", 4000), ("warm", 999), ("cold", 3000)]
        self.assertEqual(row_rule(10000, row), (993999, 3999, 3999))
        self.assertEqual(row_rule(0, row), (993999, 0, 0))
        self.assertEqual(row_rule(10000, [("warm", 1000000)] * 60), (60000000, 10000, 10000))
        self.assertEqual(row_rule(10000, [("cold", 1000000)] * 60), (-60000000, 0, 0))

    def test_a_row_cut_anywhere(self):
        chance = random.Random(6)
        for length in (1, 2, 7, 60):
            for full in (0, 9, 150):
                row = some_row(chance, length, 40)
                for cut in range(length + 1):
                    parts = joined(row_rule(full, row[:cut]), row_rule(full, row[cut:]))
                    self.assertEqual(parts, row_rule(full, row))

    def test_each_depth_of_beds_against_the_walk_over_them(self):
        chance = random.Random(7)
        for needs, heats in large_grounds():
            row = some_row(chance, chance.randint(0, 6), chance.choice((3, 60, sum(needs))))
            behind = walk_row(needs, heats, row)[0]
            for place in range(len(needs)):
                rule = row_rule(sum(needs[place:]), row)
                self.assertEqual(applied(rule, sum(heats[place:])), sum(behind[place:]))

    def test_a_bad_amount_anywhere_is_refused(self):
        for length in (1, 2, 60):
            for place in range(length):
                for amount in BAD_AMOUNTS:
                    row = ([("warm", 2), ("cold", 1)] * 30)[:length]
                    row[place] = (row[place][0], amount)
                    with self.assertRaises(BadAmount):
                        row_rule(10, row)

    def test_beds_and_heats_mixed(self):
        chance = random.Random(8)
        needs = [chance.randint(1, 9) for bed in range(6)]
        for turn in range(200):
            heats = heats_for(chance, needs)
            row = some_row(chance, chance.randint(0, 5), 15)
            behind = walk_row(needs, heats, row)[0]
            downs = [applied(row_rule(sum(needs[place:]), row), sum(heats[place:])) for place in range(6)]
            self.assertEqual(downs, [sum(behind[place:]) for place in range(6)])


if __name__ == "__main__":
    unittest.main()
