"""Points 14 to 17 through the calls of Circle: prices, dues, losses and bills."""

import unittest

from helpers import GREAT, MOST, all_told, called, circle_of, small_circle
from papercircle.circle import Circle
from papercircle.errors import BadAges, BadAmount, Dearer, LeftHouse, NoFolder, UnknownHouse, UnknownWeek


class PriceTest(unittest.TestCase):
    def test_holds_from_the_week_at_hand_on(self):
        circle = Circle(["news"])
        self.assertIsNone(circle.price(1, 30))
        self.assertEqual(circle.cost(1, 1), 30)
        circle.deal([0])
        self.assertEqual([circle.cost(1, week) for week in (1, 2)], [30, 30])
        circle.price(1, 70)
        self.assertEqual([circle.cost(1, week) for week in (1, 2)], [30, 70])
        circle.deal([0])
        circle.deal([0])
        self.assertEqual([circle.cost(1, week) for week in (1, 2, 3, 4)], [30, 70, 70, 70])

    def test_told_twice_in_a_week(self):
        circle = Circle(["news"])
        circle.price(1, 30)
        circle.price(1, 20)
        self.assertEqual(circle.cost(1, 1), 20)
        circle.join("anna", "news", 1, 8)
        circle.deal([1])
        self.assertEqual(circle.due("anna", 1), 20)

    def test_both_ends_of_amounts_and_ages(self):
        circle = Circle(["news"])
        for age in range(1, 9):
            circle.price(age, MOST)
        self.assertEqual([circle.cost(age, 1) for age in range(1, 9)], [MOST] * 8)
        for age in range(8, 0, -1):
            circle.price(age, 0)
        self.assertEqual([circle.cost(age, 1) for age in range(1, 9)], [0] * 8)

    def test_refused(self):
        circle = small_circle()
        told = all_told(circle)
        for age, cents, refusal in (
            (0, 10, BadAges), (9, 10, BadAges), (-1, 10, BadAges), (GREAT, 0, BadAges),
            (1, -1, BadAmount), (1, MOST + 1, BadAmount), (8, GREAT, BadAmount), (8, -GREAT, BadAmount),
            (2, 91, Dearer), (3, 51, Dearer), (4, 21, Dearer), (8, 1, Dearer), (1, 49, Dearer), (2, 19, Dearer),
        ):
            with self.subTest(age=age, cents=cents):
                with self.assertRaises(refusal):
                    circle.price(age, cents)
                self.assertEqual(all_told(circle), told)

    def test_as_much_as_the_ages_beside_it(self):
        circle = small_circle()
        for age, cents in ((2, 90), (2, 20), (3, 20), (1, 20), (4, 20), (5, 20)):
            self.assertIsNone(circle.price(age, cents))
            self.assertEqual(circle.cost(age, 4), cents)

    def test_beside_it_as_they_stand_in_the_week_at_hand(self):
        circle = Circle(["news"])
        circle.price(1, 100)
        circle.deal([0])
        circle.price(1, 40)
        self.assertEqual(called(circle, ("price", 2, 41)), "!Dearer")
        circle.price(2, 40)
        self.assertEqual(called(circle, ("price", 1, 39)), "!Dearer")
        self.assertEqual([circle.cost(2, week) for week in (1, 2)], [0, 40])

    def test_asked(self):
        circle = small_circle()
        for week in (-GREAT, -1, 0, 5, 6, GREAT):
            with self.assertRaises(UnknownWeek):
                circle.cost(1, week)
        for age in (-GREAT, -1, 0, 9, GREAT):
            for week in (1, 3, 4):
                with self.assertRaises(BadAges):
                    circle.cost(age, week)
        self.assertEqual([circle.cost(1, week) for week in (1, 2, 3, 4)], [80, 80, 90, 90])


class DueTest(unittest.TestCase):
    def test_the_price_of_the_folders_age(self):
        orders = [("price", age, 900 - 100 * age) for age in range(1, 9)]
        orders += [("join", "anna", "news", age, age) for age in (1,)] + [("deal", 1)]
        circle = circle_of(["news"], orders)
        self.assertEqual(circle.due("anna", 1), 800)
        for age in range(2, 9):
            house = "abcdefghi"[age]
            circle.join(house, "news", age, age)
            circle.deal([0])
            self.assertEqual(circle.dealt(age), [(house, 1)])
            self.assertEqual(circle.due(house, age), 900 - 100 * age)
            self.assertEqual(circle.owes(house), 900 - 100 * age)

    def test_nothing_for_any_other_week(self):
        circle = circle_of(["news"], [
            ("price", 1, 50), ("deal", 1), ("join", "anna", "news", 1, 1), ("deal", 1), ("deal", 0), ("leave", "anna"),
            ("deal", 1),
        ])
        self.assertEqual([circle.due("anna", week) for week in (1, 2, 3, 4)], [0, 50, 0, 0])
        self.assertEqual(circle.owes("anna"), 50)

    def test_a_later_price_is_nothing_to_it(self):
        circle = circle_of(["news"], [("price", 1, 50), ("join", "anna", "news", 1, 8), ("deal", 1), ("price", 1, 90)])
        self.assertEqual((circle.due("anna", 1), circle.owes("anna"), circle.unsent("anna")), (50, 50, 50))
        self.assertEqual(circle.bill("anna"), (1, 50, 0))

    def test_both_ends(self):
        circle = circle_of(["news"], [("join", "anna", "news", 1, 1), ("deal", 1), ("price", 1, MOST), ("deal", 1)])
        self.assertEqual([circle.due("anna", week) for week in (1, 2)], [0, MOST])

    def test_asked(self):
        circle = small_circle()
        for week in (-GREAT, -1, 0, 4, GREAT):
            with self.assertRaises(UnknownWeek):
                circle.due("anna", week)
        for house in ("nobody", "Bad", ""):
            with self.assertRaises(UnknownHouse):
                circle.due(house, 1)


class LoseTest(unittest.TestCase):
    def test_the_folder_that_it_has(self):
        circle = circle_of(["news"], [("price", 1, 50), ("join", "anna", "news", 1, 8), ("deal", 1), ("deal", 1)])
        self.assertEqual(circle.holds("anna"), 2)
        self.assertEqual(circle.lose("anna", 700), 2)
        self.assertIsNone(circle.holds("anna"))
        self.assertEqual((circle.folder(1)[2], circle.folder(2)[2]), (False, True))
        self.assertEqual((circle.owes("anna"), circle.unsent("anna"), circle.due("anna", 2)), (800, 800, 50))

    def test_that_it_was_dealt_it_stays(self):
        circle = small_circle()
        before = all_told(circle)
        self.assertEqual(circle.lose("anna", 25), 6)
        after = all_told(circle)
        changed = {order for order in before if before[order] != after[order]}
        self.assertEqual(changed, {("holds", "anna"), ("owes", "anna"), ("unsent", "anna"), ("folder", 6), ("book",)})
        self.assertEqual((after[("owes", "anna")], after[("folder", 6)]), (275, ("news", 3, True)))

    def test_a_loss_for_nothing_and_for_the_most(self):
        for cents in (0, MOST):
            circle = circle_of(["news"], [("join", "anna", "news", 1, 8), ("deal", 1)])
            self.assertEqual(circle.lose("anna", cents), 1)
            self.assertEqual(circle.owes("anna"), cents)
            self.assertEqual(circle.folder(1), ("news", 1, True))

    def test_refused(self):
        circle = small_circle()
        told = all_told(circle)
        for house, cents, refusal in (
            ("nobody", 0, UnknownHouse), ("Bad", 0, UnknownHouse), ("gone", 0, LeftHouse),
            ("anna", -1, BadAmount), ("anna", MOST + 1, BadAmount), ("anna", GREAT, BadAmount), ("bert", 5, NoFolder),
        ):
            with self.subTest(house=house, cents=cents):
                with self.assertRaises(refusal):
                    circle.lose(house, cents)
                self.assertEqual(all_told(circle), told)

    def test_only_once(self):
        circle = circle_of(["news"], [("join", "anna", "news", 1, 8), ("deal", 1), ("lose", "anna", 5)])
        with self.assertRaises(NoFolder):
            circle.lose("anna", 5)
        self.assertEqual(circle.owes("anna"), 5)

    def test_who_has_none(self):
        circle = Circle(["news"])
        circle.join("anna", "news", 1, 1)
        self.assertIsNone(circle.holds("anna"))
        self.assertEqual(called(circle, ("lose", "anna", 0)), "!NoFolder")
        circle.deal([1])
        self.assertEqual(circle.holds("anna"), 1)
        circle.join("bert", "news", 1, 1)
        self.assertIsNone(circle.holds("bert"))
        self.assertEqual(called(circle, ("lose", "bert", 0)), "!NoFolder")
        # The folder of the week before came back at the dealing.
        circle.deal([0])
        self.assertIsNone(circle.holds("anna"))
        self.assertEqual(called(circle, ("lose", "anna", 0)), "!NoFolder")
        self.assertEqual(circle.folder(1), ("news", 1, False))


class BillTest(unittest.TestCase):
    def test_one_behind_the_other(self):
        circle = circle_of(["news"], [("price", 1, 50), ("price", 2, 30), ("join", "anna", "news", 1, 8)])
        self.assertEqual(circle.bill("anna"), (0, 0, 0))
        circle.deal([1])
        circle.deal([1])
        self.assertEqual(circle.bill("anna"), (2, 100, 0))
        self.assertEqual((circle.owes("anna"), circle.unsent("anna")), (100, 0))
        circle.lose("anna", 400)
        self.assertEqual((circle.owes("anna"), circle.unsent("anna")), (500, 400))
        circle.deal([1])
        circle.lose("anna", 5)
        self.assertEqual((circle.owes("anna"), circle.unsent("anna")), (555, 455))
        self.assertEqual(circle.bill("anna"), (3, 50, 405))
        self.assertEqual(circle.bill("anna"), (3, 0, 0))
        self.assertEqual(circle.bills("anna"), [(0, 0, 0), (2, 100, 0), (3, 50, 405), (3, 0, 0)])
        self.assertEqual((circle.owes("anna"), circle.unsent("anna")), (555, 0))

    def test_kinds_of_answers(self):
        circle = small_circle()
        self.assertIs(type(circle.bill("anna")), tuple)
        self.assertIs(type(circle.bills("anna")), list)
        self.assertEqual(circle.bills("bert"), [])

    def test_each_house_has_its_own(self):
        circle = small_circle()
        before = all_told(circle)
        self.assertEqual(circle.bill("bert"), (3, 160, 300))
        after = all_told(circle)
        changed = {order for order in before if before[order] != after[order]}
        self.assertEqual(changed, {("unsent", "bert"), ("bills", "bert"), ("book",)})

    def test_a_sent_bill_never_changes(self):
        circle = circle_of(["news"], [("price", 1, 50), ("join", "anna", "news", 1, 8), ("deal", 1)])
        bill = circle.bill("anna")
        circle.lose("anna", 99)
        circle.price(1, 60)
        circle.deal([1])
        self.assertEqual((bill, circle.bills("anna")), ((1, 50, 0), [(1, 50, 0)]))
        self.assertEqual(circle.bill("anna"), (2, 60, 99))

    def test_refused(self):
        circle = small_circle()
        told = all_told(circle)
        for house in ("nobody", "Bad", ""):
            for name in ("bill", "bills", "owes", "unsent", "read", "holds", "wished"):
                with self.assertRaises(UnknownHouse):
                    getattr(circle, name)(house)
        self.assertEqual(all_told(circle), told)


if __name__ == "__main__":
    unittest.main()
