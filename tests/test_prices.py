"""Points 14, 18 (of prices) and 20 (BadAges, BadAmount, Dearer): the prices without a circle."""

import unittest

from papercircle.errors import BadAges, BadAmount, Dearer
from papercircle.prices import Prices

MOST = 1000000
GREAT = 10 ** 12
AGES = range(1, 9)


def table(prices, week):
    return [prices.at(week, age) for age in AGES]


def stairs(week=1):
    # 800 for the age 1 down to 100 for the age 8; a newer one has to be told first.
    prices = Prices()
    for age in AGES:
        prices.tell(week, age, 900 - 100 * age)
    return prices


class AtTest(unittest.TestCase):
    def test_nothing_told(self):
        prices = Prices()
        for week in (1, 2, 150, 151, GREAT):
            for age in AGES:
                with self.subTest(week=week, age=age):
                    self.assertEqual(prices.at(week, age), 0)
                    self.assertIs(type(prices.at(week, age)), int)

    def test_ahead_of_its_week_in_it_and_behind_it(self):
        prices = Prices()
        self.assertIsNone(prices.tell(5, 1, 70))
        for week in range(1, 5):
            self.assertEqual(table(prices, week), [0] * 8)
        for week in (5, 6, 7, 150, GREAT):
            self.assertEqual(table(prices, week), [70] + [0] * 7)

    def test_each_age_has_its_own_price(self):
        self.assertEqual(table(stairs(), 1), [800, 700, 600, 500, 400, 300, 200, 100])

    def test_two_prices_of_one_week(self):
        prices = Prices()
        prices.tell(3, 1, 70)
        prices.tell(3, 1, 50)
        self.assertEqual([prices.at(week, 1) for week in range(1, 6)], [0, 0, 50, 50, 50])
        prices.tell(3, 1, 90)
        self.assertEqual([prices.at(week, 1) for week in range(1, 6)], [0, 0, 90, 90, 90])

    def test_two_prices_of_different_weeks(self):
        prices = Prices()
        prices.tell(2, 1, 70)
        prices.tell(4, 1, 50)
        prices.tell(4, 1, 60)
        prices.tell(7, 1, 0)
        self.assertEqual([prices.at(week, 1) for week in range(1, 10)], [0, 70, 70, 60, 60, 60, 0, 0, 0])

    def test_past_weeks_keep_theirs(self):
        prices = stairs()
        prices.tell(9, 8, 0)
        prices.tell(9, 1, 5000)
        for week in range(1, 9):
            self.assertEqual(table(prices, week), [800, 700, 600, 500, 400, 300, 200, 100])
        self.assertEqual(table(prices, 9), [5000, 700, 600, 500, 400, 300, 200, 0])

    def test_the_same_price_again(self):
        prices = stairs()
        for age in AGES:
            prices.tell(2, age, 900 - 100 * age)
        self.assertEqual(table(prices, 2), table(prices, 1))

    def test_many_prices(self):
        prices = Prices()
        for week in range(1, 401):
            prices.tell(week, 1, week * 7 % 500)
        for week in range(1, 401):
            self.assertEqual(prices.at(week, 1), week * 7 % 500)


class BadAgesTest(unittest.TestCase):
    def test_in_tell_and_at(self):
        for age in (0, 9, 10, -1, -8, GREAT, -GREAT):
            prices = stairs()
            with self.subTest(age):
                with self.assertRaises(BadAges):
                    prices.tell(1, age, 0)
                with self.assertRaises(BadAges):
                    prices.tell(1, age, 500)
                with self.assertRaises(BadAges):
                    prices.at(1, age)
                self.assertEqual(table(prices, 1), table(stairs(), 1))

    def test_both_ends_are_good(self):
        prices = Prices()
        for age in (1, 8):
            self.assertIsNone(prices.tell(1, age, 0))
            self.assertEqual(prices.at(1, age), 0)


class BadAmountTest(unittest.TestCase):
    def test_outside(self):
        for cents in (-1, MOST + 1, -GREAT, GREAT):
            prices = stairs()
            with self.subTest(cents):
                with self.assertRaises(BadAmount):
                    prices.tell(1, 1, cents)
                self.assertEqual(table(prices, 1), table(stairs(), 1))

    def test_both_ends_for_each_age(self):
        prices = Prices()
        for age in AGES:
            prices.tell(1, age, MOST)
        self.assertEqual(table(prices, 1), [MOST] * 8)
        for age in reversed(AGES):
            prices.tell(1, age, 0)
        self.assertEqual(table(prices, 1), [0] * 8)


class DearerTest(unittest.TestCase):
    def check_refused(self, prices, week, age, cents):
        before = [table(prices, asked) for asked in range(1, 20)]
        with self.subTest(week=week, age=age, cents=cents):
            with self.assertRaises(Dearer):
                prices.tell(week, age, cents)
            self.assertEqual([table(prices, asked) for asked in range(1, 20)], before)

    def test_a_cent_above_the_newer_one(self):
        for age in range(2, 9):
            self.check_refused(stairs(), 1, age, 1000 - 100 * age + 1)
            self.check_refused(stairs(), 1, age, MOST)

    def test_a_cent_below_the_older_one(self):
        for age in range(1, 8):
            self.check_refused(stairs(), 1, age, 800 - 100 * age - 1)
            self.check_refused(stairs(), 1, age, 0)

    def test_as_dear_as_the_newer_one(self):
        for age in range(2, 9):
            prices = stairs()
            prices.tell(1, age, 1000 - 100 * age)
            with self.subTest(age):
                self.assertEqual(prices.at(1, age), prices.at(1, age - 1))

    def test_as_cheap_as_the_older_one(self):
        for age in range(1, 8):
            prices = stairs()
            prices.tell(1, age, 800 - 100 * age)
            with self.subTest(age):
                self.assertEqual(prices.at(1, age), prices.at(1, age + 1))

    def test_the_first_age_has_no_newer_one(self):
        prices = stairs()
        prices.tell(1, 1, MOST)
        self.assertEqual(prices.at(1, 1), MOST)

    def test_the_last_age_has_no_older_one(self):
        prices = stairs()
        prices.tell(1, 8, 0)
        self.assertEqual(prices.at(1, 8), 0)

    def test_a_price_for_an_older_age_first(self):
        for age in range(2, 9):
            self.check_refused(Prices(), 1, age, 1)

    def test_only_the_ages_right_beside_it_count(self):
        prices = Prices()
        prices.tell(1, 1, 100)
        self.check_refused(prices, 1, 3, 50)
        prices.tell(1, 2, 50)
        prices.tell(1, 3, 50)
        self.assertEqual(table(prices, 1), [100, 50, 50, 0, 0, 0, 0, 0])

    def test_as_they_stand_in_the_week_at_hand(self):
        prices = Prices()
        prices.tell(1, 1, 100)
        prices.tell(5, 1, 40)
        self.check_refused(prices, 5, 2, 41)
        self.check_refused(prices, 6, 2, 100)
        prices.tell(6, 2, 40)
        prices.tell(8, 1, 300)
        prices.tell(8, 2, 300)
        self.check_refused(prices, 8, 1, 299)
        self.check_refused(prices, 9, 1, 40)
        self.assertEqual([prices.at(week, 2) for week in range(1, 10)], [0, 0, 0, 0, 0, 40, 40, 300, 300])

    def test_as_they_stand_behind_another_one_of_the_same_week(self):
        prices = Prices()
        prices.tell(1, 1, 100)
        prices.tell(1, 2, 100)
        prices.tell(1, 1, 200)
        prices.tell(1, 2, 150)
        self.check_refused(prices, 1, 2, 201)
        self.check_refused(prices, 1, 1, 149)
        self.assertEqual(table(prices, 1)[:2], [200, 150])


class FirstRefusalTest(unittest.TestCase):
    def test_bad_ages_ahead_of_bad_amount(self):
        for age in (0, 9, -1):
            for cents in (-1, MOST + 1):
                with self.subTest(age=age, cents=cents):
                    with self.assertRaises(BadAges):
                        stairs().tell(1, age, cents)

    def test_bad_amount_ahead_of_dearer(self):
        for age in AGES:
            for cents in (-1, MOST + 1):
                with self.subTest(age=age, cents=cents):
                    with self.assertRaises(BadAmount):
                        stairs().tell(1, age, cents)

    def test_a_refused_price_holds_in_no_week(self):
        prices = Prices()
        for age, cents, refusal in ((9, 5, BadAges), (1, -1, BadAmount), (2, 5, Dearer)):
            with self.assertRaises(refusal):
                prices.tell(3, age, cents)
        for week in range(1, 10):
            self.assertEqual(table(prices, week), [0] * 8)


class ApartTest(unittest.TestCase):
    def test_two_tables(self):
        one, other = Prices(), Prices()
        one.tell(1, 1, 70)
        self.assertEqual(table(other, 1), [0] * 8)
        other.tell(1, 1, 30)
        with self.assertRaises(Dearer):
            other.tell(1, 2, 31)
        one.tell(1, 2, 31)
        self.assertEqual(table(one, 1)[:2], [70, 31])
        self.assertEqual(table(other, 1)[:2], [30, 0])

    def test_asking_changes_nothing(self):
        prices = stairs(4)
        before = [table(prices, week) for week in range(1, 9)]
        with self.assertRaises(BadAges):
            prices.at(4, 0)
        self.assertEqual([table(prices, week) for week in range(1, 9)], before)


if __name__ == "__main__":
    unittest.main()
