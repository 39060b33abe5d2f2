import unittest

from thawfront import errors

NAMES = [
    "UnknownBed", "UnknownDeed", "BadBeds", "BadNeed", "BadHeat", "BadYear",
    "BadAmount", "BadTimes", "UnknownSeason", "TooManyLaid", "TooManyDeeds",
    "NothingDone",
]


class ErrorsTest(unittest.TestCase):
    def test_thaw_error_is_a_value_error(self):
        self.assertEqual(errors.ThawError.__bases__, (ValueError,))

    def test_each_class_stands_straight_under_thaw_error(self):
        for name in NAMES:
            with self.subTest(name):
                self.assertEqual(getattr(errors, name).__bases__, (errors.ThawError,))

    def test_each_name_is_a_class_of_its_own(self):
        found = [getattr(errors, name) for name in NAMES]
        self.assertEqual([one.__name__ for one in found], NAMES)
        for one in found:
            for other in found:
                with self.subTest(one=one, other=other):
                    self.assertEqual(issubclass(one, other), one is other)

    def test_there_is_no_other_refusal(self):
        found = [one.__name__ for one in errors.ThawError.__subclasses__()]
        self.assertEqual(sorted(found), sorted(NAMES))

    def test_each_is_taken_as_a_thaw_error(self):
        for name in NAMES:
            with self.subTest(name):
                with self.assertRaises(errors.ThawError):
                    raise getattr(errors, name)("some words")


if __name__ == "__main__":
    unittest.main()
