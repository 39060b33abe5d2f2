"""warmed, chilled and passed against a walk of the units one by one."""

import random
import unittest

from grounds import BAD_AMOUNTS, heats_for, large_grounds, small_grounds
from grounds import walk_cold, walk_row, walk_warm
from thawfront.beds import chilled, passed, warmed
from thawfront.errors import BadAmount

PAIRS = ((warmed, walk_warm), (chilled, walk_cold))


def edge_amounts(needs, heats):
    """Both sides of each sum at which something ends, and where a bed ends."""
    whole = sum(needs)
    held = sum(heats)
    near = [0, 1, 2, needs[-1], heats[-1], whole, held, whole - held]
    return sorted({edge + step for edge in near for step in (-1, 0, 1) if edge + step >= 0})


class SingleSeasonTest(unittest.TestCase):
    def check(self, needs, heats, amount):
        for season, walk in PAIRS:
            told = season(needs, heats, amount)
            if told != walk(needs, heats, amount):
                self.fail(f"{season.__name__}{(needs, heats, amount)} told {told}")

    def test_every_small_ground_and_amount(self):
        for needs, heats in small_grounds():
            for amount in range(sum(needs) + 3):
                self.check(needs, heats, amount)

    def test_large_grounds_at_their_edges(self):
        for needs, heats in large_grounds():
            for amount in edge_amounts(needs, heats):
                self.check(needs, heats, amount)

    def test_large_grounds_at_many_amounts(self):
        chance = random.Random(7)
        for needs, heats in large_grounds():
            for turn in range(10):
                self.check(needs, heats, chance.randint(0, sum(needs) + 5))

    def test_the_greatest_amount(self):
        for needs, heats in (([200], [0]), ([3, 1, 200], [1, 1, 5]), ([2, 4], [2, 4])):
            self.check(needs, heats, 999999)
            self.check(needs, heats, 1000000)

    def test_the_greatest_amount_over_many_beds(self):
        for needs, heats in large_grounds():
            with self.subTest(needs=needs, heats=heats):
                no_room = 1000000 - sum(needs) + sum(heats)
                self.assertEqual(warmed(needs, heats, 1000000), (needs, no_room))
                no_heat = 1000000 - sum(heats)
                self.assertEqual(chilled(needs, heats, 1000000), ([0] * len(needs), no_heat))

    def test_warmth_fills_from_the_top(self):
        self.assertEqual(warmed([5, 3, 4], [0, 0, 0], 6), ([0, 2, 4], 0))
        self.assertEqual(warmed([5, 3, 4], [5, 1, 4], 1), ([5, 2, 4], 0))
        self.assertEqual(warmed([5, 3, 4], [1, 3, 2], 9), ([5, 3, 4], 3))

    def test_cold_empties_from_the_top(self):
        self.assertEqual(chilled([5, 3, 4], [5, 3, 4], 6), ([5, 1, 0], 0))
        self.assertEqual(chilled([5, 3, 4], [5, 1, 0], 1), ([5, 0, 0], 0))
        self.assertEqual(chilled([5, 3, 4], [1, 0, 2], 9), ([0, 0, 0], 6))

    def test_bad_amounts_are_refused(self):
        for season, walk in PAIRS:
            for amount in BAD_AMOUNTS:
                for needs, heats in (([3], [0]), ([3, 4], [3, 4]), ([2] * 50, [1] * 50)):
                    kept = (list(needs), list(heats))
                    with self.assertRaises(BadAmount):
                        season(needs, heats, amount)
                    self.assertEqual((needs, heats), kept)

    def test_the_kinds_that_are_told(self):
        for season, walk in PAIRS:
            told = season([3, 4], [1, 2], 5)
            self.assertIs(type(told), tuple)
            self.assertEqual([type(part) for part in told], [list, int])
            self.assertEqual([type(heat) for heat in told[0]], [int, int])


class RowTest(unittest.TestCase):
    def test_a_row_of_no_season(self):
        for needs, heats in large_grounds():
            self.assertEqual(passed(needs, heats, []), (heats, 0, 0))

    def test_a_row_of_one_season(self):
        for needs, heats in small_grounds():
            for amount in range(sum(needs) + 2):
                behind, no_room = walk_warm(needs, heats, amount)
                self.assertEqual(passed(needs, heats, [("warm", amount)]), (behind, no_room, 0))
                behind, no_heat = walk_cold(needs, heats, amount)
                self.assertEqual(passed(needs, heats, [("cold", amount)]), (behind, 0, no_heat))

    def test_rows_of_up_to_60_seasons(self):
        chance = random.Random(9)
        for length in (2, 3, 5, 12, 59, 60):
            for turn in range(8):
                needs = [chance.randint(1, 20) for bed in range(chance.randint(1, 12))]
                heats = heats_for(chance, needs)
                most = chance.choice((3, 20, sum(needs) + 10))
                row = [(chance.choice(("warm", "cold")), chance.randint(0, most)) for each in range(length)]
                with self.subTest(needs=needs, heats=heats, row=row):
                    self.assertEqual(passed(needs, heats, row), walk_row(needs, heats, row))

    def test_the_order_of_the_row_matters(self):
        needs = [3, 2]
        self.assertEqual(passed(needs, [1, 0], [("warm", 6), ("cold", 4)]), ([1, 0], 2, 0))
        self.assertEqual(passed(needs, [1, 0], [("cold", 4), ("warm", 6)]), ([3, 2], 1, 3))

    def test_both_sums_over_several_seasons(self):
        row = [("warm", 7), ("warm", 2), ("cold", 8), ("cold", 1), ("warm", 0), ("cold", 0), ("warm", 6)]
        self.assertEqual(passed([3, 2], [0, 0], row), ([3, 2], 5, 4))

    def test_60_of_the_greatest_amounts(self):
        row = [("warm", 1000000), ("cold", 1000000)] * 30
        no_heat = 30 * 999500
        self.assertEqual(passed([200, 200, 100], [0, 0, 100], row), ([0, 0, 0], no_heat + 100, no_heat))

    def test_longer_rows_and_more_beds_are_not_refused(self):
        row = [("warm", 7), ("cold", 5)] * 100
        self.assertEqual(passed([4] * 60, [0] * 60, row), walk_row([4] * 60, [0] * 60, row))

    def test_a_bad_amount_anywhere_is_refused(self):
        for length in (1, 2, 3, 60):
            for place in range(length):
                for kind in ("warm", "cold"):
                    for amount in BAD_AMOUNTS:
                        row = [("warm", 2), ("cold", 1)] * 30
                        row = row[:length]
                        row[place] = (kind, amount)
                        with self.assertRaises(BadAmount):
                            passed([3, 4], [1, 2], row)

    def test_a_refused_row_stays_as_it_is(self):
        needs, heats, row = [3, 4], [1, 2], [("warm", 2), ("cold", -1), ("warm", 3)]
        with self.assertRaises(BadAmount):
            passed(needs, heats, row)
        self.assertEqual((needs, heats), ([3, 4], [1, 2]))
        self.assertEqual(row, [("warm", 2), ("cold", -1), ("warm", 3)])

    def test_the_kinds_that_are_told(self):
        for row in ([], [("warm", 2)], [("cold", 2)], [("warm", 9), ("cold", 20)]):
            told = passed([3, 4], [1, 2], row)
            self.assertIs(type(told), tuple)
            self.assertEqual([type(part) for part in told], [list, int, int])


if __name__ == "__main__":
    unittest.main()
