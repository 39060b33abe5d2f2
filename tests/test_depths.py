"""heat_down_to, thawed_beds and front_of."""

import unittest

from grounds import FAR, large_grounds, small_grounds
from thawfront.beds import front_of, heat_down_to, thawed_beds
from thawfront.errors import UnknownBed


def all_grounds():
    yield from small_grounds()
    yield from large_grounds()


class HeatDownToTest(unittest.TestCase):
    def test_each_bed_of_one_ground(self):
        heats = [7, 0, 20, 3]
        self.assertEqual([heat_down_to(heats, bed) for bed in (1, 2, 3, 4)], [30, 23, 23, 3])

    def test_a_single_bed(self):
        self.assertEqual(heat_down_to([0], 1), 0)
        self.assertEqual(heat_down_to([200], 1), 200)

    def test_each_bed_adds_its_heat_to_that_above_it(self):
        for needs, heats in all_grounds():
            above = 0
            for bed in range(len(heats), 0, -1):
                above += heats[bed - 1]
                self.assertEqual(heat_down_to(heats, bed), above)

    def test_unknown_beds_are_refused(self):
        for heats in ([5], [5, 6], [1] * 30, [1] * 50):
            kept = list(heats)
            count = len(heats)
            for bed in (0, -1, -count, -count - 1, count + 1, count + 2) + FAR + tuple(-far for far in FAR):
                with self.assertRaises(UnknownBed):
                    heat_down_to(heats, bed)
            self.assertEqual(heats, kept)

    def test_a_whole_number_is_told(self):
        self.assertIs(type(heat_down_to([1, 2], 2)), int)


class ThawedTest(unittest.TestCase):
    def check(self, needs, heats, thawed, front):
        self.assertEqual(thawed_beds(needs, heats), thawed)
        self.assertEqual(front_of(needs, heats), front)

    def test_none_thawed(self):
        self.check([4], [0], [], 0)
        self.check([4], [3], [], 0)
        self.check([4, 1, 9], [3, 0, 8], [], 0)

    def test_all_thawed(self):
        self.check([4], [4], [1], 1)
        self.check([4, 1, 9], [4, 1, 9], [1, 2, 3], 3)
        self.check([200] * 50, [200] * 50, list(range(1, 51)), 50)

    def test_a_thawed_bed_beneath_one_that_is_not(self):
        self.check([4, 1, 9, 2], [4, 0, 9, 2], [1, 3, 4], 2)
        self.check([4, 5, 9, 2], [4, 5, 8, 2], [1, 2, 4], 1)

    def test_the_topmost_one_not_thawed(self):
        self.check([4, 1, 9], [4, 1, 8], [1, 2], 0)
        self.check([4, 1, 9], [4, 1, 0], [1, 2], 0)

    def test_only_the_topmost_one_thawed(self):
        self.check([4, 1, 9], [3, 0, 9], [3], 1)

    def test_many_grounds(self):
        for needs, heats in all_grounds():
            beds = range(1, len(needs) + 1)
            thawed = [bed for bed in beds if heats[bed - 1] == needs[bed - 1]]
            frozen = [bed for bed in beds if heats[bed - 1] < needs[bed - 1]]
            self.check(needs, heats, thawed, len(needs) - max(frozen, default=0))

    def test_the_kinds_that_are_told(self):
        self.assertIs(type(thawed_beds([3, 4], [3, 4])), list)
        self.assertEqual([type(bed) for bed in thawed_beds([3, 4], [3, 4])], [int, int])
        self.assertIs(type(front_of([3, 4], [3, 4])), int)


if __name__ == "__main__":
    unittest.main()
