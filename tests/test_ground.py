"""The ground: its making, its deeds, what they tell, and what is there now."""

import unittest

from grounds import BAD_AMOUNTS
from thawfront.errors import BadAmount, BadBeds, BadHeat, BadNeed, BadTimes, BadYear
from thawfront.errors import NothingDone, TooManyDeeds, TooManyLaid, UnknownBed
from thawfront.ground import Ground
from walks import BAD_TIMES, BEHIND_MOST, BELOW_ONE, MOST, YEARS, do_deed, wrong_and_right

BAD_NEEDS = BELOW_ONE + (201, 202) + BEHIND_MOST
YEAR = [("warm", 3), ("cold", 2)]


def picture(ground):
    """All that a ground tells of itself."""
    beds = range(1, len(ground.needs()) + 1)
    deeds = ground.deeds()
    behind = [ground.heats_behind(number) for number in range(len(deeds) + 1)]
    within = []
    for number, deed in enumerate(deeds, start=1):
        if deed[0] != "lay":
            last = deed[2] if deed[0] == "years" else 1
            within.append((ground.heats_within(number, last, 1), ground.balance_within(number, last, 1)))
    return (
        ground.needs(), ground.heats(), ground.thawed(), ground.front(), ground.balance(), deeds, behind, within,
        [(ground.need(bed), ground.heat(bed), ground.down_to(bed), ground.is_thawed(bed)) for bed in beds],
    )


def full_of_deeds():
    ground = Ground([5, 3])
    for deed in range(300):
        ground.warm(deed % 2)
    return ground


def full_of_laid_beds():
    ground = Ground([5, 3])
    for bed in range(20):
        ground.lay(bed + 1)
    return ground


def full_of_both():
    ground = full_of_laid_beds()
    for deed in range(280):
        ground.cold(0)
    return ground


class MakingTest(unittest.TestCase):
    def check_refused(self, due, *handed):
        with self.assertRaises(due):
            Ground(*handed)

    def test_without_heats_all_is_frozen(self):
        for ground in (Ground([5, 3, 4]), Ground([5, 3, 4], None), Ground([5, 3, 4], heats=None)):
            self.assertEqual(ground.needs(), [5, 3, 4])
            self.assertEqual(ground.heats(), [0, 0, 0])
            self.assertEqual(ground.balance(), (0, 0, 0))
            self.assertEqual(ground.deeds(), [])

    def test_with_heats(self):
        for ground in (Ground([5, 3, 4], [5, 0, 2]), Ground(needs=[5, 3, 4], heats=[5, 0, 2])):
            self.assertEqual(ground.needs(), [5, 3, 4])
            self.assertEqual(ground.heats(), [5, 0, 2])
            self.assertEqual(ground.balance(), (7, 0, 0))
            self.assertEqual(ground.heats_behind(0), [5, 0, 2])

    def test_the_sizes_that_are_taken(self):
        self.assertEqual(Ground([1]).needs(), [1])
        self.assertEqual(Ground([200], [200]).heats(), [200])
        self.assertEqual(Ground([200] * 30, [0, 200] * 15).heats(), [0, 200] * 15)

    def test_bad_beds(self):
        for count in (0, 31, 32, 200):
            self.check_refused(BadBeds, [5] * count)
            self.check_refused(BadBeds, [5] * count, None)
            self.check_refused(BadBeds, [5] * count, [0] * count)

    def test_bad_needs(self):
        for need in BAD_NEEDS:
            self.check_refused(BadNeed, [need])
            self.check_refused(BadNeed, [need, 5, 5])
            self.check_refused(BadNeed, [5, 5, need], [0, 0, 0])
            self.check_refused(BadNeed, [5] * 29 + [need], [5] * 30)

    def test_bad_heats(self):
        for heats in ([], [1], [1, 1], [1, 1, 1, 1], [0] * 200):
            self.check_refused(BadHeat, [5, 3, 4], heats)
        for place in range(3):
            need = [5, 3, 4][place]
            for heat in (-1, -2, need + 1, need + 2, 201) + BEHIND_MOST + tuple(-far for far in BEHIND_MOST):
                heats = [5, 3, 4]
                heats[place] = heat
                self.check_refused(BadHeat, [5, 3, 4], heats)

    def test_of_several_refusals_the_first_one_comes(self):
        self.check_refused(BadBeds, [], [1])
        self.check_refused(BadBeds, [0] * 31)
        self.check_refused(BadBeds, [201] * 31, [-1] * 30)
        self.check_refused(BadBeds, [5] * 31, [6] * 31)
        self.check_refused(BadNeed, [5, 0], [-1, 0])
        self.check_refused(BadNeed, [5, 201], [6])
        self.check_refused(BadNeed, [5, -3], [])
        self.check_refused(BadNeed, [5, 201], [0, 201])

    def test_the_lists_that_are_refused_stay_as_they_are(self):
        needs, heats = [5, 3], [5, 4]
        self.check_refused(BadHeat, needs, heats)
        self.assertEqual((needs, heats), ([5, 3], [5, 4]))


class DeedsTest(unittest.TestCase):
    def test_a_warm_season(self):
        ground = Ground([5, 3, 4])
        self.assertEqual(ground.warm(6), 0)
        self.assertEqual((ground.heats(), ground.balance()), ([0, 2, 4], (0, 6, 0)))
        self.assertEqual(ground.warm(8), 2)
        self.assertEqual((ground.heats(), ground.balance()), ([5, 3, 4], (0, 12, 0)))
        self.assertEqual(ground.warm(1000000), 1000000)
        self.assertEqual((ground.heats(), ground.balance()), ([5, 3, 4], (0, 12, 0)))
        self.assertEqual(ground.warm(0), 0)
        self.assertEqual(ground.deeds(), [("warm", 6), ("warm", 8), ("warm", 1000000), ("warm", 0)])

    def test_a_cold_season(self):
        ground = Ground([5, 3, 4], [5, 1, 3])
        self.assertEqual(ground.cold(5), 0)
        self.assertEqual((ground.heats(), ground.balance()), ([4, 0, 0], (9, 0, 5)))
        self.assertEqual(ground.cold(6), 2)
        self.assertEqual((ground.heats(), ground.balance()), ([0, 0, 0], (9, 0, 9)))
        self.assertEqual(ground.cold(1000000), 1000000)
        self.assertEqual(ground.cold(0), 0)
        self.assertEqual((ground.heats(), ground.balance()), ([0, 0, 0], (9, 0, 9)))
        self.assertEqual(ground.deeds(), [("cold", 5), ("cold", 6), ("cold", 1000000), ("cold", 0)])

    def test_years(self):
        ground = Ground([5, 3, 4])
        self.assertEqual(ground.years([("warm", 9), ("cold", 4)], 2), (2, 0))
        self.assertEqual((ground.heats(), ground.balance()), ([5, 3, 0], (0, 16, 8)))
        self.assertEqual(ground.years([("cold", 10), ("warm", 1)], MOST), (0, 2 + 9 * (MOST - 1)))
        self.assertEqual(ground.heats(), [0, 0, 1])
        self.assertEqual(ground.balance(), (0, 16 + MOST, 8 + 8 + MOST - 1))
        self.assertEqual(ground.deeds(), [
            ("years", (("warm", 9), ("cold", 4)), 2),
            ("years", (("cold", 10), ("warm", 1)), MOST),
        ])

    def test_a_bed_laid_on(self):
        ground = Ground([5, 3], [5, 3])
        self.assertEqual(ground.lay(4), 3)
        self.assertEqual((ground.needs(), ground.heats()), ([5, 3, 4], [5, 3, 0]))
        self.assertEqual((ground.thawed(), ground.front()), ([1, 2], 0))
        self.assertEqual(ground.balance(), (8, 0, 0))
        self.assertEqual(ground.warm(3), 0)
        self.assertEqual(ground.heats(), [5, 3, 3])
        self.assertEqual(ground.lay(200), 4)
        self.assertEqual(ground.lay(1), 5)
        self.assertEqual(ground.needs(), [5, 3, 4, 200, 1])
        self.assertEqual(ground.cold(4), 0)
        self.assertEqual(ground.heats(), [5, 2, 0, 0, 0])
        self.assertEqual(ground.balance(), (8, 3, 4))
        self.assertEqual(ground.deeds(), [("lay", 4), ("warm", 3), ("lay", 200), ("lay", 1), ("cold", 4)])

    def test_the_kinds_that_are_told(self):
        ground = Ground([5, 3, 4])
        for told in (ground.warm(7), ground.cold(9), ground.lay(6)):
            self.assertIs(type(told), int)
        told = ground.years(YEAR, 7)
        self.assertIs(type(told), tuple)
        self.assertEqual([type(part) for part in told], [int, int])
        for deed in ground.deeds():
            self.assertIs(type(deed), tuple)
        self.assertIs(type(ground.deeds()[3][1]), tuple)
        self.assertEqual([type(season) for season in ground.deeds()[3][1]], [tuple, tuple])
        self.assertIs(type(ground.deeds()), list)
        self.assertIs(type(ground.take_back()), tuple)


class NowTest(unittest.TestCase):
    def test_what_is_there_now(self):
        ground = Ground([5, 3, 4, 2], [5, 0, 4, 2])
        self.assertEqual([ground.need(bed) for bed in (1, 2, 3, 4)], [5, 3, 4, 2])
        self.assertEqual([ground.heat(bed) for bed in (1, 2, 3, 4)], [5, 0, 4, 2])
        self.assertEqual([ground.down_to(bed) for bed in (1, 2, 3, 4)], [11, 6, 6, 2])
        self.assertEqual([ground.is_thawed(bed) for bed in (1, 2, 3, 4)], [True, False, True, True])
        self.assertEqual((ground.thawed(), ground.front()), ([1, 3, 4], 2))
        ground.cold(1)
        self.assertEqual([ground.is_thawed(bed) for bed in (1, 2, 3, 4)], [True, False, True, False])
        self.assertEqual((ground.thawed(), ground.front()), ([1, 3], 0))

    def test_the_kinds_that_are_told(self):
        ground = Ground([5, 3], [5, 1])
        for told in (ground.needs(), ground.heats(), ground.thawed(), ground.deeds(), ground.heats_behind(0)):
            self.assertIs(type(told), list)
        for told in (ground.need(1), ground.heat(1), ground.down_to(1), ground.front()):
            self.assertIs(type(told), int)
        self.assertIs(ground.is_thawed(1), True)
        self.assertIs(ground.is_thawed(2), False)
        self.assertIs(type(ground.balance()), tuple)
        self.assertEqual([type(part) for part in ground.balance()], [int, int, int])

    def test_unknown_beds_are_refused(self):
        for ground, count in ((Ground([5]), 1), (Ground([5, 3]), 2), (full_of_laid_beds(), 22)):
            before = picture(ground)
            for bed in BELOW_ONE + (-count, count + 1, count + 2) + BEHIND_MOST:
                for question in (ground.need, ground.heat, ground.down_to, ground.is_thawed):
                    with self.assertRaises(UnknownBed):
                        question(bed)
            self.assertEqual(picture(ground), before)

    def test_a_laid_bed_is_known_until_it_is_taken_back(self):
        ground = Ground([5])
        with self.assertRaises(UnknownBed):
            ground.need(2)
        ground.lay(7)
        self.assertEqual((ground.need(2), ground.heat(2), ground.down_to(2), ground.is_thawed(2)), (7, 0, 0, False))
        ground.take_back()
        with self.assertRaises(UnknownBed):
            ground.need(2)


class BoundsTest(unittest.TestCase):
    def test_the_20th_and_the_21st_laid_bed(self):
        ground = Ground([5] * 30)
        for number in range(31, 51):
            self.assertEqual(ground.lay(200), number)
        with self.assertRaises(TooManyLaid):
            ground.lay(1)
        self.assertEqual(len(ground.needs()), 50)
        self.assertEqual(ground.warm(1000000), 1000000 - 150 - 4000)

    def test_laid_beds_that_were_taken_back_do_not_count(self):
        ground = Ground([5])
        for turn in range(30):
            self.assertEqual(ground.lay(turn + 1), 2)
            self.assertEqual(ground.take_back(), ("lay", turn + 1))
        for number in range(2, 22):
            self.assertEqual(ground.lay(1), number)
        with self.assertRaises(TooManyLaid):
            ground.lay(1)
        self.assertEqual(ground.take_back(), ("lay", 1))
        self.assertEqual(ground.lay(9), 21)
        with self.assertRaises(TooManyLaid):
            ground.lay(1)
        ground.warm(1)
        with self.assertRaises(TooManyLaid):
            ground.lay(1)

    def test_the_300th_and_the_301st_deed(self):
        ground = full_of_deeds()
        self.assertEqual(len(ground.deeds()), 300)
        before = picture(ground)
        for deed in (("warm", 1), ("cold", 1), ("years", tuple(YEAR), 1), ("lay", 1)):
            with self.assertRaises(TooManyDeeds):
                do_deed(ground, deed)
            self.assertEqual(picture(ground), before)
        for deed in (("warm", 1), ("cold", 1), ("years", tuple(YEAR), MOST), ("lay", 1)):
            ground.take_back()
            do_deed(ground, deed)
            self.assertEqual((len(ground.deeds()), ground.deeds()[299]), (300, deed))
            with self.assertRaises(TooManyDeeds):
                ground.cold(0)

    def test_300_deeds_of_each_kind_count_alike(self):
        ground = full_of_both()
        self.assertEqual(len(ground.deeds()), 300)
        with self.assertRaises(TooManyDeeds):
            ground.years(YEAR, 5)


class TakingBackTest(unittest.TestCase):
    DEEDS = (
        ("warm", 6), ("lay", 7), ("years", (("warm", 9), ("cold", 4)), 3), ("cold", 2), ("lay", 1), ("lay", 2),
        ("warm", 0), ("years", (("cold", 1), ("warm", 1)), MOST), ("cold", 1000000), ("warm", 1000000), ("cold", 3),
    )

    def test_one_by_one_up_to_the_ground_as_it_was_made(self):
        ground = Ground([5, 3, 4], [1, 3, 0])
        pictures = []
        for deed in self.DEEDS:
            pictures.append(picture(ground))
            do_deed(ground, deed)
        self.assertEqual(ground.deeds(), list(self.DEEDS))
        for deed in reversed(self.DEEDS):
            self.assertEqual(ground.take_back(), deed)
            self.assertEqual(picture(ground), pictures.pop())
        self.assertEqual(pictures, [])
        for turn in range(2):
            with self.assertRaises(NothingDone):
                ground.take_back()
            self.assertEqual((ground.heats(), ground.needs(), ground.deeds()), ([1, 3, 0], [5, 3, 4], []))

    def test_nothing_done(self):
        ground = Ground([5, 3])
        before = picture(ground)
        with self.assertRaises(NothingDone):
            ground.take_back()
        self.assertEqual(picture(ground), before)

    def test_taken_back_and_done_again(self):
        ground = Ground([5, 3, 4], [1, 3, 0])
        for number, deed in enumerate(self.DEEDS):
            do_deed(ground, deed)
            after = picture(ground)
            self.assertEqual(ground.take_back(), deed)
            self.assertEqual(len(ground.deeds()), number)
            do_deed(ground, deed)
            self.assertEqual(picture(ground), after)

    def test_another_deed_in_its_place(self):
        ground = Ground([5, 3])
        ground.warm(4)
        ground.warm(100)
        ground.take_back()
        self.assertEqual(ground.cold(1), 0)
        self.assertEqual((ground.heats(), ground.balance()), ([1, 2], (0, 4, 1)))
        self.assertEqual(ground.deeds(), [("warm", 4), ("cold", 1)])
        self.assertEqual(ground.heats_behind(2), [1, 2])


class RefusedDeedsTest(unittest.TestCase):
    def check(self, ground, due, deed, *handed):
        before = picture(ground)
        if due is None:
            deed(*handed)
            ground.take_back()
        else:
            with self.assertRaises(due):
                deed(*handed)
        self.assertEqual(picture(ground), before)

    def some_ground(self):
        ground = Ground([5, 3], [1, 3])
        ground.warm(2)
        ground.lay(4)
        ground.years(YEAR, 4)
        return ground

    def test_bad_amounts(self):
        ground = self.some_ground()
        for amount in BAD_AMOUNTS:
            self.check(ground, BadAmount, ground.warm, amount)
            self.check(ground, BadAmount, ground.cold, amount)
            for place in range(3):
                year = [("warm", 1), ("cold", 2), ("warm", 3)]
                year[place] = (year[place][0], amount)
                self.check(ground, BadAmount, ground.years, year, 2)

    def test_bad_years_and_times(self):
        ground = self.some_ground()
        times = [(1, None), (MOST, None)] + [(each, BadTimes) for each in BAD_TIMES]
        for (year, count), due in wrong_and_right(YEARS, times):
            self.check(ground, due, ground.years, year, count)

    def test_bad_needs(self):
        ground = self.some_ground()
        for need in BAD_NEEDS:
            self.check(ground, BadNeed, ground.lay, need)
        for need in (1, 2, 199, 200):
            self.check(ground, None, ground.lay, need)

    def test_of_several_refusals_the_first_one_comes(self):
        deeds, laid, both = full_of_deeds(), full_of_laid_beds(), full_of_both()
        for ground in (deeds, both):
            self.check(ground, BadAmount, ground.warm, -1)
            self.check(ground, BadAmount, ground.cold, 1000001)
            self.check(ground, TooManyDeeds, ground.warm, 0)
            self.check(ground, TooManyDeeds, ground.cold, 0)
            self.check(ground, BadYear, ground.years, [], 0)
            self.check(ground, BadAmount, ground.years, [("warm", -1)], 0)
            self.check(ground, BadTimes, ground.years, YEAR, 0)
            self.check(ground, TooManyDeeds, ground.years, YEAR, MOST)
        for ground, due in ((deeds, TooManyDeeds), (laid, TooManyLaid), (both, TooManyLaid)):
            self.check(ground, BadNeed, ground.lay, 0)
            self.check(ground, BadNeed, ground.lay, 201)
            self.check(ground, due, ground.lay, 1)


class TwoGroundsTest(unittest.TestCase):
    def test_two_grounds_share_nothing(self):
        needs, heats = [5, 3], [1, 3]
        one, other = Ground(needs, heats), Ground(needs, heats)
        before = picture(other)
        one.warm(3)
        one.lay(7)
        one.years(YEAR, 9)
        self.assertEqual(picture(other), before)
        after = picture(one)
        other.cold(2)
        other.lay(1)
        self.assertEqual(picture(one), after)
        one.take_back()
        self.assertEqual(other.deeds(), [("cold", 2), ("lay", 1)])

    def test_nor_do_two_frozen_ones(self):
        one, other = Ground([5, 3]), Ground([5, 3])
        one.warm(3)
        self.assertEqual((other.heats(), other.deeds(), Ground([5, 3]).heats()), ([0, 0], [], [0, 0]))


if __name__ == "__main__":
    unittest.main()
