"""The five limits, promises [6] and [7]."""

import unittest

from meetrounds import limits


class LimitsTest(unittest.TestCase):
    def test_the_five_limits(self):
        told = {
            "MOST_SIDE": 4, "MOST_BOUND": 4, "MOST_TABLES": 12, "MOST_MEETINGS": 10 ** 30, "MOST_CHANGES": 5,
        }
        for name, number in told.items():
            with self.subTest(name=name):
                self.assertIs(int, type(getattr(limits, name)))
                self.assertEqual(number, getattr(limits, name))


if __name__ == "__main__":
    unittest.main()
