"""A ground keeps what it was handed and what it told apart from whoever changes it."""

import unittest

from thawfront.errors import ThawError
from thawfront.ground import Ground
from walks import MOST

YEAR = [("warm", 9), ("cold", 4)]


def some_ground():
    ground = Ground([5, 3], [1, 2])
    ground.warm(3)
    ground.lay(6)
    ground.years(list(YEAR), 3)
    ground.years(list(YEAR), MOST)
    ground.cold(2)
    return ground


def questions():
    """Each question, asked of the ground that is handed in."""
    year = [("warm", 7), ("cold", 3)]
    asked = [
        lambda ground: ground.needs(), lambda ground: ground.heats(), lambda ground: ground.thawed(),
        lambda ground: ground.front(), lambda ground: ground.balance(), lambda ground: ground.deeds(),
        lambda ground: ground.rest_year(list(year)), lambda ground: ground.coming(list(year), 1, 1),
        lambda ground: ground.coming(list(year), MOST, 2), lambda ground: ground.coming([("warm", 0)], 1, 1),
        lambda ground: ground.heats_within(1, 1, 1), lambda ground: ground.balance_within(1, 1, 1),
        lambda ground: ground.heats_within(4, MOST, 2), lambda ground: ground.balance_within(4, MOST, 2),
        lambda ground: ground.heats_within(3, 1, 1), lambda ground: ground.heats_within(5, 1, 1),
    ]
    for deed in range(6):
        asked.append(lambda ground, deed=deed: ground.heats_behind(deed))
    for bed in (1, 2, 3):
        asked += [
            lambda ground, bed=bed: ground.need(bed), lambda ground, bed=bed: ground.heat(bed),
            lambda ground, bed=bed: ground.down_to(bed), lambda ground, bed=bed: ground.is_thawed(bed),
            lambda ground, bed=bed: ground.rule(bed, list(year)),
            lambda ground, bed=bed: ground.years_rule(bed, list(year), MOST),
            lambda ground, bed=bed: ground.first_thawed(bed, list(year)),
        ]
    return asked


def spoil(told):
    if isinstance(told, list):
        told.append(77)
        told[0] = 99
        told.reverse()


class GroundListsTest(unittest.TestCase):
    def answers(self, ground):
        return [question(ground) for question in questions()]

    def test_what_was_told_may_be_changed(self):
        ground = some_ground()
        before = self.answers(ground)
        for question in questions():
            spoil(question(ground))
            self.assertEqual(self.answers(ground), before)
        self.assertEqual(ground.take_back(), ("cold", 2))

    def test_a_told_list_is_a_new_one_each_time(self):
        ground = some_ground()
        for question in questions():
            told = question(ground)
            if isinstance(told, list):
                self.assertIsNot(question(ground), told)

    def test_no_question_changes_another_answer(self):
        ground = some_ground()
        before = self.answers(ground)
        for question in questions():
            question(ground)
            self.assertEqual(self.answers(ground), before)

    def test_the_lists_of_the_making_may_be_changed(self):
        needs, heats = [5, 3], [1, 2]
        ground = Ground(needs, heats)
        self.assertEqual((needs, heats), ([5, 3], [1, 2]))
        spoil(needs)
        spoil(heats)
        self.assertEqual((ground.needs(), ground.heats(), ground.heats_behind(0)), ([5, 3], [1, 2], [1, 2]))
        ground.lay(7)
        ground.warm(9)
        self.assertEqual((ground.needs(), ground.heats(), ground.balance()), ([5, 3, 7], [2, 3, 7], (3, 9, 0)))

    def test_one_list_as_needs_and_heats(self):
        both = [5, 3]
        ground = Ground(both, both)
        ground.cold(4)
        ground.lay(1)
        self.assertEqual((ground.needs(), ground.heats(), both), ([5, 3, 1], [4, 0, 0], [5, 3]))

    def test_the_year_of_a_kept_deed_may_be_changed(self):
        year = list(YEAR)
        ground = Ground([5, 3, 6], [1, 2, 0])
        ground.years(year, 3)
        self.assertEqual(year, YEAR)
        within = [ground.heats_within(1, at_year, season) for at_year in (1, 2, 3) for season in (1, 2)]
        year.append(("warm", 1000))
        year[0] = ("cold", 1000)
        self.assertEqual(ground.deeds(), [("years", tuple(YEAR), 3)])
        again = [ground.heats_within(1, at_year, season) for at_year in (1, 2, 3) for season in (1, 2)]
        self.assertEqual(again, within)
        with self.assertRaises(ThawError):
            ground.heats_within(1, 1, 3)
        self.assertEqual(ground.take_back(), ("years", tuple(YEAR), 3))

    def test_what_a_question_is_handed_stays_as_it_is(self):
        ground = some_ground()
        year = list(YEAR)
        for bed in (1, 2, 3):
            ground.rule(bed, year)
            ground.years_rule(bed, year, 7)
            ground.first_thawed(bed, year)
        ground.coming(year, 9, 2)
        ground.rest_year(year)
        ground.years(year, 7)
        self.assertEqual(year, YEAR)

    def test_what_was_told_is_not_touched_by_later_deeds(self):
        ground = some_ground()
        told = [ground.needs(), ground.heats(), ground.deeds(), ground.thawed(), ground.heats_behind(5)]
        kept = [list(each) for each in told]
        ground.lay(9)
        ground.warm(20)
        ground.take_back()
        ground.take_back()
        ground.take_back()
        self.assertEqual(told, kept)

    def test_the_same_history_has_the_same_answers(self):
        self.assertEqual(self.answers(some_ground()), self.answers(some_ground()))


if __name__ == "__main__":
    unittest.main()
