"""The bounds of points 2 to 7, 14, 16 and 19, as the interface tells them."""

import unittest

from papercircle import bounds

VALUES = {
    "KINDS_MOST": 4,
    "NEW_MOST": 3,
    "OLDEST": 8,
    "HOUSES_MOST": 20,
    "JOINED_MOST": 60,
    "WEEKS_MOST": 150,
    "PRICE_MOST": 1000000,
    "DEEDS_MOST": 400,
    "NAME_MOST": 12,
    "FIGURES_MOST": 9,
}


class BoundsTest(unittest.TestCase):
    def test_each_name_has_its_value(self):
        self.assertEqual(len(VALUES), 10)
        for name, value in VALUES.items():
            with self.subTest(name):
                self.assertEqual(getattr(bounds, name), value)

    def test_each_value_is_a_whole_number(self):
        for name in VALUES:
            with self.subTest(name):
                self.assertIs(type(getattr(bounds, name)), int)


if __name__ == "__main__":
    unittest.main()
