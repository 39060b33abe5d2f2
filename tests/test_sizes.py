import unittest

from thawfront import sizes

VALUES = {
    "MOST_BEDS": 30,
    "MOST_LAID": 20,
    "MOST_NEED": 200,
    "MOST_AMOUNT": 1000000,
    "MOST_SEASONS": 12,
    "MOST_TIMES": 10 ** 18,
    "MOST_DEEDS": 300,
}


class SizesTest(unittest.TestCase):
    def test_each_constant_has_its_value(self):
        for name, value in VALUES.items():
            with self.subTest(name):
                self.assertEqual(getattr(sizes, name), value)
                self.assertIs(type(getattr(sizes, name)), int)


if __name__ == "__main__":
    unittest.main()
