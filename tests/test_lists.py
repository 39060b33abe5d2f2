"""What is handed in stays as it is, and what is told is new each time."""

import copy
import unittest

from thawfront import beds, rules, years

NEEDS = [5, 3, 4]
MANY_HEATS = ([0, 0, 0], [5, 3, 4], [5, 0, 4], [2, 3, 1])
ROWS = ([], [("warm", 0)], [("cold", 0)], [("warm", 6), ("cold", 3)], [("cold", 4), ("warm", 100)])
TIMES = (1, 2, 3, 10 ** 18)


def list_calls():
    """Each function that tells a list, and what it is handed."""
    for heats in MANY_HEATS:
        for amount in (0, 1, 6, 1000000):
            yield beds.warmed, (NEEDS, heats, amount)
            yield beds.chilled, (NEEDS, heats, amount)
        for row in ROWS:
            yield beds.passed, (NEEDS, heats, row)
        yield beds.thawed_beds, (NEEDS, heats)
        for year in ROWS[1:]:
            for times in TIMES:
                yield years.years_passed, (NEEDS, heats, year, times)
                yield years.heats_at, (NEEDS, heats, year, times, 1)
                yield years.heats_at, (NEEDS, heats, year, times, len(year))


def number_calls():
    """Each function that tells numbers alone."""
    for row in ROWS:
        yield rules.row_rule, (12, row)
    for year in ROWS[1:]:
        for times in TIMES:
            yield rules.year_rule, (12, year, times)
    for heats in MANY_HEATS:
        for bed in (1, 2, 3):
            yield beds.heat_down_to, (heats, bed)
        yield beds.front_of, (NEEDS, heats)
        for year in ROWS[1:]:
            yield years.rest_of, (NEEDS, heats, year)
            for bed in (1, 2, 3):
                yield years.first_season, (NEEDS, heats, bed, year)


def told_list(told):
    return told[0] if isinstance(told, tuple) else told


class ListsTest(unittest.TestCase):
    def test_what_is_handed_in_stays_as_it_is(self):
        for function, given in list(list_calls()) + list(number_calls()):
            with self.subTest(function=function.__name__, given=given):
                handed = copy.deepcopy(given)
                function(*handed)
                self.assertEqual(handed, given)

    def test_the_same_question_has_the_same_answer(self):
        for function, given in list(list_calls()) + list(number_calls()):
            with self.subTest(function=function.__name__, given=given):
                self.assertEqual(function(*given), function(*given))

    def test_a_told_list_is_a_new_one_each_time(self):
        for function, given in list_calls():
            with self.subTest(function=function.__name__, given=given):
                first = told_list(function(*given))
                second = told_list(function(*given))
                self.assertIsNot(first, second)
                for thing in given:
                    self.assertIsNot(first, thing)

    def test_changing_a_told_list_changes_nothing_else(self):
        for function, given in list_calls():
            with self.subTest(function=function.__name__, given=given):
                handed = copy.deepcopy(given)
                first = function(*handed)
                second = function(*handed)
                kept = copy.deepcopy(second)
                told_list(first).append(77)
                told_list(first)[0] = 99
                self.assertEqual(handed, given)
                self.assertEqual(second, kept)
                self.assertEqual(function(*handed), kept)

    def test_changing_what_was_handed_in_leaves_what_was_told(self):
        for function, given in list_calls():
            with self.subTest(function=function.__name__, given=given):
                handed = copy.deepcopy(given)
                told = function(*handed)
                kept = copy.deepcopy(told)
                for thing in handed:
                    if isinstance(thing, list):
                        thing.append(77)
                        thing[0] = 99
                self.assertEqual(told, kept)
                self.assertEqual(function(*copy.deepcopy(given)), kept)


if __name__ == "__main__":
    unittest.main()
