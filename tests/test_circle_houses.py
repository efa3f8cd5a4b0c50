"""Points 3, 4, 7 and 8 through the calls of Circle: kinds, weeks, joining, wishes and leaving."""

import unittest

from helpers import GREAT, all_told, called, circle_of, crowded_circle, fill_book, name_at, small_circle
from papercircle.circle import Circle
from papercircle.errors import (
    BadAges, BadKinds, BadName, CircleFull, KnownHouse, LastWeek, LeftHouse, UnknownHouse, UnknownKind, UnknownWeek,
)


class KindsTest(unittest.TestCase):
    def test_one_to_four(self):
        for kinds in (["a"], ["a", "b"], ["news", "art", "sea"], ["abcdefghijkl", "z", "news", "art"]):
            with self.subTest(kinds):
                circle = Circle(kinds)
                for place, kind in enumerate(kinds, start=1):
                    self.assertEqual(circle.join(name_at(place), kind, 1, 8), place)
                self.assertEqual(circle.deal([1] * len(kinds)), 1)
                told = [circle.folder(number)[0] for number in range(1, len(kinds) + 1)]
                self.assertEqual(told, kinds)

    def test_too_few_and_too_many(self):
        for kinds in ([], ["a", "b", "c", "d", "e"], [name_at(place) for place in range(20)], ["a"] * 500):
            with self.subTest(kinds):
                with self.assertRaises(BadKinds):
                    Circle(kinds)

    def test_no_good_names(self):
        for bad in ("", "News", "news1", "a b", "abcdefghijklm", "-", "x" * 100, " "):
            for kinds in ([bad], ["art", bad], [bad, "art"], ["a", "b", "c", bad]):
                with self.subTest(kinds):
                    with self.assertRaises(BadKinds):
                        Circle(kinds)

    def test_two_alike(self):
        for kinds in (["a", "a"], ["a", "b", "a"], ["a", "b", "c", "c"], ["a", "a", "a", "a"], ["a", "b", "b", "c"]):
            with self.subTest(kinds):
                with self.assertRaises(BadKinds):
                    Circle(kinds)


class NewCircleTest(unittest.TestCase):
    def test_tells_nothing_yet(self):
        circle = Circle(["news"])
        self.assertEqual((circle.week, circle.houses(), circle.book()), (0, [], []))
        self.assertIs(type(circle.week), int)
        for week in (-1, 0, 1, 2, GREAT):
            for ask in (circle.dealt, circle.without, circle.why):
                with self.assertRaises(UnknownWeek):
                    ask(week)
        self.assertEqual([circle.cost(age, 1) for age in range(1, 9)], [0] * 8)


class WeeksTest(unittest.TestCase):
    def test_numbered_from_one(self):
        circle = Circle(["news"])
        for week in range(1, 6):
            self.assertEqual(circle.week, week - 1)
            self.assertEqual(circle.deal([week % 3]), week)
        self.assertEqual(circle.week, 5)

    def test_a_hundred_and_fifty(self):
        circle = Circle(["news"])
        circle.join("anna", "news", 1, 8)
        for week in range(1, 151):
            self.assertEqual(circle.deal([1]), week)
        for turn in range(2):
            with self.assertRaises(LastWeek):
                circle.deal([1])
        self.assertEqual(circle.week, 150)
        self.assertEqual(circle.dealt(150), [("anna", 150)])
        with self.assertRaises(UnknownWeek):
            circle.dealt(151)
        with self.assertRaises(UnknownWeek):
            circle.due("anna", 151)

    def test_behind_the_last_week(self):
        circle = Circle(["news"])
        circle.join("anna", "news", 1, 8)
        circle.price(1, 7)
        for week in range(150):
            circle.deal([1])
        # The week at hand is 151 now: it is not dealt, but what is told is told in it.
        circle.price(1, 20)
        self.assertEqual((circle.cost(1, 150), circle.cost(1, 151)), (7, 20))
        with self.assertRaises(UnknownWeek):
            circle.cost(1, 152)
        self.assertEqual(circle.join("bert", "news", 1, 8), 2)
        self.assertIsNone(circle.wish("bert", "news", 2, 2))
        self.assertEqual(circle.lose("anna", 5), 150)
        self.assertEqual(circle.bill("anna"), (150, 1050, 5))
        self.assertIsNone(circle.leave("anna"))
        self.assertEqual(circle.houses(), ["bert"])


class JoinTest(unittest.TestCase):
    def test_places(self):
        circle = Circle(["news", "art"])
        for place in range(1, 21):
            self.assertEqual(circle.join(name_at(place), "art", 1, 8), place)
        self.assertEqual(circle.houses(), [name_at(place) for place in range(1, 21)])

    def test_place_counts_those_that_left(self):
        circle = Circle(["news"])
        for place in range(1, 61):
            self.assertEqual(circle.join(name_at(place), "news", 1, 1), place)
            circle.leave(name_at(place))
        self.assertEqual(circle.houses(), [])

    def test_the_order_of_joining_is_not_that_of_names(self):
        circle = Circle(["news"])
        for name in ("zoe", "anna", "mark"):
            circle.join(name, "news", 1, 8)
        self.assertEqual(circle.houses(), ["zoe", "anna", "mark"])

    def test_lengths_of_names(self):
        circle = Circle(["news"])
        for name in ("a", "z", "abcdefghijkl"):
            circle.join(name, "news", 1, 8)
        self.assertEqual(circle.houses(), ["a", "z", "abcdefghijkl"])

    def test_bad_names(self):
        circle = small_circle()
        told = all_told(circle)
        for name in ("", "Anna", "anna2", "an na", " anna", "abcdefghijklm", "a" * 100, "-", "~"):
            with self.subTest(name):
                with self.assertRaises(BadName):
                    circle.join(name, "news", 1, 8)
        self.assertEqual(all_told(circle), told)

    def test_known_houses(self):
        circle = small_circle()
        told = all_told(circle)
        for name in ("anna", "carl", "gone"):
            with self.subTest(name):
                with self.assertRaises(KnownHouse):
                    circle.join(name, "news", 1, 8)
        self.assertEqual(all_told(circle), told)

    def test_a_kind_may_be_called_like_a_house(self):
        circle = Circle(["anna"])
        self.assertEqual(circle.join("anna", "anna", 1, 1), 1)
        with self.assertRaises(KnownHouse):
            circle.join("anna", "anna", 1, 1)

    def test_all_ages(self):
        for least in range(-1, 11):
            for most in range(-1, 11):
                circle = Circle(["news"])
                with self.subTest(least=least, most=most):
                    if 1 <= least <= most <= 8:
                        circle.join("anna", "news", least, most)
                        self.assertEqual(circle.wished("anna"), ("news", least, most))
                    else:
                        with self.assertRaises(BadAges):
                            circle.join("anna", "news", least, most)
                        self.assertEqual(circle.houses(), [])

    def test_great_ages(self):
        for least, most in ((1, GREAT), (-GREAT, 8), (GREAT, GREAT), (-GREAT, -GREAT)):
            with self.assertRaises(BadAges):
                Circle(["news"]).join("anna", "news", least, most)

    def test_unknown_kinds(self):
        circle = Circle(["news", "art"])
        for kind in ("sea", "", "New", "new", "newss", "News", "0", "anna"):
            with self.subTest(kind):
                with self.assertRaises(UnknownKind):
                    circle.join("anna", kind, 1, 8)
        self.assertEqual(circle.houses(), [])
        with self.assertRaises(UnknownHouse):
            circle.wished("anna")


class CircleFullTest(unittest.TestCase):
    def test_twenty_at_a_time(self):
        circle = crowded_circle()
        self.assertEqual(len(circle.houses()), 20)
        told = all_told(circle)
        with self.assertRaises(CircleFull):
            circle.join("late", "news", 1, 8)
        self.assertEqual(all_told(circle), told)
        circle.leave(name_at(3))
        self.assertEqual(circle.join("late", "news", 1, 8), 22)
        self.assertEqual(circle.houses()[-1], "late")
        with self.assertRaises(CircleFull):
            circle.join("later", "news", 1, 8)

    def test_sixty_in_all(self):
        circle = Circle(["news"])
        for place in range(60):
            self.assertEqual(circle.join(name_at(place), "news", 1, 8), place + 1)
            if place % 10:
                circle.leave(name_at(place))
        self.assertEqual(len(circle.houses()), 6)
        told = all_told(circle)
        with self.assertRaises(CircleFull):
            circle.join("late", "news", 1, 8)
        for name in circle.houses():
            circle.leave(name)
        with self.assertRaises(CircleFull):
            circle.join("late", "news", 1, 8)
        self.assertEqual(circle.book()[:len(told[("book",)])], told[("book",)])

    def test_a_full_circle_takes_new_wishes(self):
        circle = crowded_circle()
        self.assertIsNone(circle.wish("haa", "art", 2, 3))
        self.assertEqual(circle.wished("haa"), ("art", 2, 3))


class WishTest(unittest.TestCase):
    def test_kind_and_ages_together(self):
        circle = small_circle()
        self.assertEqual(circle.wished("anna"), ("news", 1, 8))
        self.assertIs(type(circle.wished("anna")), tuple)
        self.assertIsNone(circle.wish("anna", "art", 2, 2))
        self.assertEqual(circle.wished("anna"), ("art", 2, 2))
        self.assertIsNone(circle.wish("anna", "art", 1, 8))
        self.assertEqual(circle.wished("anna"), ("art", 1, 8))
        self.assertEqual(circle.wished("bert"), ("news", 1, 2))

    def test_the_same_wish_again(self):
        circle = small_circle()
        self.assertIsNone(circle.wish("bert", "news", 1, 2))
        self.assertEqual(circle.wished("bert"), ("news", 1, 2))
        self.assertEqual(circle.book()[-1], "wish bert news 1 2")

    def test_keeps_its_place_and_all_that_it_had(self):
        circle = small_circle()
        before = all_told(circle)
        circle.wish("anna", "art", 3, 4)
        after = all_told(circle)
        changed = {order for order in before if before[order] != after[order]}
        self.assertEqual(changed, {("wished", "anna"), ("book",)})

    def test_keeps_its_place_at_the_dealing(self):
        circle = circle_of(["news", "art"], [
            ("join", "anna", "art", 1, 8), ("join", "bert", "news", 1, 8), ("wish", "anna", "news", 1, 8),
        ])
        circle.deal([1, 0])
        self.assertEqual(circle.dealt(1), [("anna", 1)])
        self.assertEqual(circle.without(1), ["bert"])

    def test_refused(self):
        circle = small_circle()
        told = all_told(circle)
        for wish, refusal in (
            (("nobody", "news", 1, 8), UnknownHouse), (("Bad", "news", 1, 8), UnknownHouse),
            (("", "news", 1, 8), UnknownHouse), (("gone", "news", 1, 8), LeftHouse),
            (("anna", "sea", 1, 8), UnknownKind), (("anna", "", 1, 8), UnknownKind),
            (("anna", "news", 0, 8), BadAges), (("anna", "news", 1, 9), BadAges), (("anna", "news", 5, 4), BadAges),
        ):
            with self.subTest(wish):
                with self.assertRaises(refusal):
                    circle.wish(*wish)
                self.assertEqual(all_told(circle), told)


class LeaveTest(unittest.TestCase):
    def test_stands_no_more(self):
        circle = small_circle()
        self.assertEqual(circle.houses(), ["anna", "bert", "carl"])
        self.assertIsNone(circle.leave("bert"))
        self.assertEqual(circle.houses(), ["anna", "carl"])

    def test_gives_back_the_folder(self):
        circle = circle_of(["news"], [("join", "anna", "news", 1, 8), ("join", "bert", "news", 1, 8), ("deal", 1)])
        self.assertEqual(circle.holds("anna"), 1)
        circle.leave("anna")
        self.assertIsNone(circle.holds("anna"))
        self.assertEqual(circle.folder(1), ("news", 1, False))
        # It goes on to another house, and is dealt to the one that left no more.
        circle.deal([0])
        self.assertEqual(circle.dealt(2), [("bert", 1)])
        self.assertEqual(circle.trail(1), [(1, "anna"), (2, "bert")])
        self.assertEqual(circle.without(2), [])

    def test_what_is_told_of_it_stays(self):
        circle = small_circle()
        for house in ("anna", "carl"):
            before = all_told(circle)
            circle.leave(house)
            after = all_told(circle)
            changed = {order for order in before if before[order] != after[order]}
            self.assertEqual(changed, {("holds", house), ("houses",), ("book",)})
        before = all_told(circle)
        circle.price(1, 100)
        circle.deal([3, 3])
        after = all_told(circle)
        for house in ("anna", "carl", "gone"):
            for name in ("wished", "holds", "read", "owes", "unsent", "bills"):
                self.assertEqual(after[(name, house)], before[(name, house)])
            self.assertEqual(circle.due(house, 4), 0)

    def test_bills_can_still_be_sent(self):
        circle = circle_of(["news"], [
            ("price", 1, 40), ("join", "anna", "news", 1, 8), ("deal", 1), ("lose", "anna", 9), ("leave", "anna"),
            ("deal", 1), ("deal", 1),
        ])
        self.assertEqual((circle.owes("anna"), circle.unsent("anna"), circle.bills("anna")), (49, 49, []))
        self.assertEqual(circle.bill("anna"), (3, 40, 9))
        self.assertEqual((circle.owes("anna"), circle.unsent("anna")), (49, 0))
        self.assertEqual(circle.bill("anna"), (3, 0, 0))
        self.assertEqual(circle.bills("anna"), [(3, 40, 9), (3, 0, 0)])

    def test_any_other_deed_of_it_is_refused(self):
        circle = small_circle()
        circle.leave("anna")
        told = all_told(circle)
        for house in ("anna", "gone"):
            for deed in (("wish", house, "news", 1, 8), ("leave", house), ("lose", house, 0)):
                with self.subTest(deed):
                    self.assertEqual(called(circle, deed), "!LeftHouse")
            self.assertEqual(called(circle, ("join", house, "news", 1, 8)), "!KnownHouse")
        self.assertEqual(all_told(circle), told)

    def test_refused(self):
        circle = small_circle()
        with self.assertRaises(UnknownHouse):
            circle.leave("nobody")
        with self.assertRaises(UnknownHouse):
            circle.leave("Bad Name")
        with self.assertRaises(LeftHouse):
            circle.leave("gone")

    def test_all_leave(self):
        circle = small_circle()
        for house in circle.houses():
            circle.leave(house)
        self.assertEqual(circle.houses(), [])
        self.assertEqual(circle.deal([1, 1]), 4)
        self.assertEqual((circle.dealt(4), circle.without(4), circle.why(4)), ([], [], ([], [])))

    def test_a_house_that_left_is_none_of_the_twenty(self):
        circle = crowded_circle()
        for place in range(5):
            circle.leave(name_at(place))
        for place in range(20, 25):
            self.assertEqual(circle.join(name_at(place), "news", 1, 8), place + 2)
        self.assertEqual(called(circle, ("join", "more", "news", 1, 8)), "!CircleFull")

    def test_in_a_full_book_too(self):
        circle = fill_book(small_circle())
        self.assertEqual(called(circle, ("leave", "anna")), "!BookFull")
        self.assertEqual(circle.houses(), ["anna", "bert", "carl"])


if __name__ == "__main__":
    unittest.main()
