"""Points 1, 18 and 19 through the calls of Circle: lists told afresh, circles apart, past weeks, and the book."""

import unittest

from helpers import all_but_why, all_told, called, circle_of, fill_book, name_at, row_of, small_circle
from papercircle.circle import Circle
from papercircle.desk import answer_row, answer_rows, walk_rows
from papercircle.errors import BookFull, CircleError

DEEDS_DONE = [
    (("join", "dora", "art", 2, 4), 5),
    (("wish", "anna", "art", 1, 3), None),
    (("lose", "anna", 12), 6),
    (("price", 1, 95), None),
    (("bill", "carl"), (3, 170, 0)),
    (("leave", "carl"), None),
    (("deal", 3, 0), 4),
]
DEEDS_REFUSED = [
    ("join", "Dora", "art", 2, 4), ("join", "anna", "art", 2, 4), ("join", "gone", "art", 2, 4),
    ("join", "dora", "sea", 2, 4), ("join", "dora", "art", 0, 4), ("wish", "nobody", "art", 1, 3),
    ("wish", "gone", "art", 1, 3), ("wish", "anna", "sea", 1, 3), ("wish", "anna", "art", 4, 3), ("leave", "nobody"),
    ("leave", "gone"), ("lose", "nobody", 5), ("lose", "gone", 5), ("lose", "anna", -5), ("lose", "bert", 5),
    ("price", 0, 5), ("price", 1, -5), ("price", 2, 500), ("price", 1, 0), ("bill", "nobody"), ("deal",),
    ("deal", 1), ("deal", 4, 0), ("deal", 0, 0, 0),
]


class ListsTest(unittest.TestCase):
    def test_every_list_is_told_afresh(self):
        circle = small_circle()
        told = all_told(circle)
        for order, answer in list(all_told(circle).items()):
            lists = answer if isinstance(answer, tuple) else (answer,)
            for part in lists:
                if isinstance(part, list):
                    with self.subTest(order):
                        part.append("more")
                        part[0] = "other"
                        self.assertEqual(all_told(circle), told)
                        part.clear()
                        self.assertEqual(all_told(circle), told)

    def test_a_changed_answer_changes_no_later_deed(self):
        changed, plain = small_circle(), small_circle()
        for circle in (changed, plain):
            answers = [circle.houses(), circle.book(), circle.read("anna"), circle.bills("anna"), circle.dealt(3)]
            answers += [circle.without(3), circle.why(3)[0], circle.why(3)[1], circle.trail(1)]
            if circle == changed:
                for answer in answers:
                    answer.clear()
            circle.deal([1, 1])
            circle.bill("anna")
        self.assertEqual(all_told(changed), all_told(plain))

    def test_two_questions_answer_two_lists(self):
        circle = small_circle()
        for order in (("houses",), ("book",), ("read", "anna"), ("bills", "anna"), ("dealt", 1), ("without", 1)):
            self.assertIsNot(called(circle, order), called(circle, order))

    def test_handed_in_lists_stay(self):
        kinds, counts, rows = ["news", "art"], [1, 2], ["join anna news 1 8", "deal 1 2", "nonsense"]
        circle = Circle(kinds)
        circle.join("anna", "news", 1, 8)
        circle.deal(counts)
        answer_rows(kinds, rows)
        walk_rows(kinds, rows[:2])
        self.assertEqual((kinds, counts), (["news", "art"], [1, 2]))
        self.assertEqual(rows, ["join anna news 1 8", "deal 1 2", "nonsense"])
        bad = ["news", "news"]
        with self.assertRaises(CircleError):
            Circle(bad)
        self.assertEqual(bad, ["news", "news"])
        with self.assertRaises(CircleError):
            circle.deal([4, 4])

    def test_handed_in_lists_are_not_kept(self):
        kinds, counts = ["news", "art"], [1, 2]
        circle = Circle(kinds)
        kinds[0] = "sea"
        kinds.append("home")
        self.assertEqual(circle.join("anna", "news", 1, 8), 1)
        self.assertEqual(called(circle, ("join", "bert", "sea", 1, 8)), "!UnknownKind")
        circle.deal(counts)
        told = all_told(circle)
        counts[0] = 3
        counts.append(7)
        self.assertEqual(all_told(circle), told)
        self.assertEqual(circle.book()[-1], "deal 1 2")
        self.assertEqual(circle.deal([0, 0]), 2)

    def test_one_list_for_two_circles(self):
        kinds = ["news"]
        one, other = Circle(kinds), Circle(kinds)
        one.join("anna", "news", 1, 8)
        self.assertEqual((other.houses(), other.book()), ([], []))

    def test_walked_rows_are_not_kept(self):
        rows = ["join anna news 1 8", "deal 1"]
        circle = walk_rows(["news"], rows)
        rows.append("deal 1")
        circle.deal([0])
        self.assertEqual(circle.book(), ["join anna news 1 8", "deal 1", "deal 0"])
        self.assertEqual(len(rows), 3)


class ApartTest(unittest.TestCase):
    def test_two_circles(self):
        one, other = small_circle(), small_circle()
        told = all_told(other)
        for deed, answer in DEEDS_DONE:
            self.assertEqual(called(one, deed), answer)
            self.assertEqual(all_told(other), told)
        for deed, answer in DEEDS_DONE:
            self.assertEqual(called(other, deed), answer)
        self.assertEqual(all_told(other), all_told(one))

    def test_two_circles_in_turn(self):
        one, other = Circle(["news", "art"]), Circle(["art"])
        one.join("anna", "news", 1, 8)
        other.join("anna", "art", 2, 3)
        one.price(1, 50)
        one.deal([1, 1])
        other.deal([2])
        other.leave("anna")
        self.assertEqual((one.houses(), other.houses()), (["anna"], []))
        self.assertEqual((one.dealt(1), other.dealt(1)), ([("anna", 1)], []))
        self.assertEqual((one.cost(1, 1), other.cost(1, 1)), (50, 0))
        self.assertEqual((one.folder(2), other.folder(2)), (("art", 1, False), ("art", 1, False)))
        self.assertEqual((one.owes("anna"), other.owes("anna")), (50, 0))

    def test_answer_rows_makes_a_new_circle_each_time(self):
        rows = ["join anna news 1 8", "deal 1"]
        self.assertEqual(answer_rows(["news"], rows), ["1", "1"])
        self.assertEqual(answer_rows(["news"], rows), ["1", "1"])
        self.assertIsNot(walk_rows(["news"], rows), walk_rows(["news"], rows))


class NothingChangedTest(unittest.TestCase):
    def test_questions_change_nothing(self):
        circle = small_circle()
        told = all_told(circle)
        for turn in range(3):
            self.assertEqual(all_told(circle), told)
        for order in told:
            if order not in ("week", ("book",)):
                answer_row(circle, row_of(order))
        self.assertEqual(all_told(circle), told)

    def test_refused_deeds_change_nothing(self):
        circle = small_circle()
        told = all_told(circle)
        for deed in DEEDS_REFUSED:
            with self.subTest(deed):
                self.assertTrue(called(circle, deed).startswith("!"))
                self.assertEqual(all_told(circle), told)
                self.assertTrue(answer_row(circle, row_of(deed)).startswith("refused: "))
                self.assertEqual(all_told(circle), told)

    def test_what_follows_is_as_if_they_were_never_asked(self):
        asked, plain = small_circle(), small_circle()
        for deed, answer in DEEDS_DONE:
            for refused in DEEDS_REFUSED:
                if refused[0] == deed[0]:
                    called(asked, refused)
            all_told(asked)
            self.assertEqual(called(asked, deed), answer)
            self.assertEqual(called(plain, deed), answer)
        self.assertEqual(all_told(asked), all_told(plain))


class PastWeeksTest(unittest.TestCase):
    def told_of(self, circle, last):
        """All that is told of the weeks up to `last`, for houses that had joined by then."""
        asked = [(name, week) for week in range(1, last + 1) for name in ("dealt", "without", "why")]
        asked += [("cost", age, week) for week in range(1, last + 1) for age in range(1, 9)]
        asked += [("due", house, week) for week in range(1, last + 1) for house in ("anna", "bert", "carl", "gone")]
        return {order: called(circle, order) for order in asked}

    def test_stay_the_same_whatever_is_done(self):
        circle = small_circle()
        told = self.told_of(circle, 3)
        for deed, answer in DEEDS_DONE + [
            (("price", 2, 60), None), (("join", "emil", "news", 1, 8), 6), (("wish", "bert", "art", 1, 8), None),
            (("deal", 0, 0), 5), (("leave", "anna"), None), (("leave", "bert"), None), (("bill", "anna"), (5, 220, 12)),
            (("deal", 1, 1), 6),
        ]:
            with self.subTest(deed):
                self.assertEqual(called(circle, deed), answer)
                self.assertEqual(self.told_of(circle, 3), told)

    def test_a_loss_in_the_last_week_dealt(self):
        circle = small_circle()
        told = self.told_of(circle, 3)
        circle.lose("anna", 5)
        circle.lose("carl", 5)
        self.assertEqual(self.told_of(circle, 3), told)
        self.assertEqual(circle.dealt(3), [("anna", 6), ("carl", 7)])

    def test_a_price_for_the_week_at_hand(self):
        circle = small_circle()
        self.assertEqual(circle.cost(1, 4), 90)
        circle.price(1, 500)
        self.assertEqual([circle.cost(1, week) for week in (1, 2, 3, 4)], [80, 80, 90, 500])


class BookTest(unittest.TestCase):
    def test_each_deed_as_its_row(self):
        circle = small_circle()
        self.assertEqual(circle.book(), [
            "price 1 80", "price 2 50", "price 3 20", "join anna news 1 8", "join bert news 1 2", "join carl art 1 8",
            "join gone news 2 3", "deal 2 1", "bill anna", "deal 2 0", "lose bert 300", "leave gone", "price 1 90",
            "deal 1 1", "bill gone",
        ])
        circle.wish("anna", "art", 1, 1)
        self.assertEqual(circle.book()[-1], "wish anna art 1 1")

    def test_the_desk_writes_the_same_rows(self):
        circle = Circle(["news", "art"])
        for row in small_circle().book():
            answer_row(circle, row)
            self.assertEqual(circle.book()[-1], row)
        self.assertEqual(all_told(circle), all_told(small_circle()))

    def test_refused_ones_and_questions_are_not_in_it(self):
        circle = small_circle()
        book = circle.book()
        for deed in DEEDS_REFUSED:
            called(circle, deed)
        for row in ("houses", "why 1", "nonsense", "", "holds anna", "join anna news 1 8", "deal 9 9"):
            answer_row(circle, row)
        self.assertEqual(circle.book(), book)

    def test_four_hundred_deeds(self):
        circle = small_circle()
        while len(circle.book()) < 399:
            circle.bill("anna")
        self.assertIsNone(circle.price(1, 91))
        self.assertEqual(len(circle.book()), 400)
        told = all_told(circle)
        for deed, answer in DEEDS_DONE:
            with self.subTest(deed):
                self.assertEqual(called(circle, deed), "!BookFull")
                self.assertEqual(answer_row(circle, row_of(deed)), "refused: book full")
                self.assertEqual(all_told(circle), told)
        with self.assertRaises(BookFull):
            circle.bill("anna")

    def test_each_deed_may_be_the_last(self):
        for deed, answer in DEEDS_DONE:
            circle = small_circle()
            while len(circle.book()) < 399:
                circle.price(8, 0)
            with self.subTest(deed):
                self.assertEqual(called(circle, deed), answer)
                self.assertEqual(circle.book()[399:], [row_of(deed)])
                self.assertEqual(called(circle, ("price", 8, 0)), "!BookFull")

    def test_a_full_book_still_answers(self):
        circle = fill_book(small_circle())
        told, plain = all_told(circle), all_told(small_circle())
        self.assertEqual({order for order in plain if plain[order] != told[order]}, {("book",)})


class WalkedBookTest(unittest.TestCase):
    def check_walked(self, kinds, circle):
        again = walk_rows(kinds, circle.book())
        self.assertEqual(all_but_why(again), all_but_why(circle))
        for week in range(1, circle.week + 1):
            houses, numbers = again.why(week)
            self.assertEqual(len(houses) - len(numbers), len(circle.without(week)))
        return again

    def test_a_new_circle(self):
        self.check_walked(["news"], Circle(["news"]))

    def test_a_small_circle_at_each_step(self):
        rows = small_circle().book() + [row_of(deed) for deed, answer in DEEDS_DONE]
        for many in range(len(rows) + 1):
            circle = walk_rows(["news", "art"], rows[:many])
            self.assertEqual(circle.book(), rows[:many])
            self.check_walked(["news", "art"], circle)

    def test_with_refused_deeds_between(self):
        circle = small_circle()
        for deed, answer in DEEDS_DONE:
            for refused in DEEDS_REFUSED:
                called(circle, refused)
            called(circle, deed)
        self.check_walked(["news", "art"], circle)

    def test_a_full_book_of_all_weeks(self):
        circle = Circle(["news", "art", "sea", "home"])
        for place in range(20):
            circle.join(name_at(place), ["news", "art", "sea", "home"][place % 4], 1 + place % 3, 8)
        for age in range(1, 9):
            circle.price(age, 900 - 100 * age)
        for week in range(150):
            circle.deal([week % 2, 1, week % 3, 3])
            if circle.holds(name_at(week % 20)) is not None:
                circle.lose(name_at(week % 20), week)
        fill_book(circle)
        again = self.check_walked(["news", "art", "sea", "home"], circle)
        self.assertEqual(len(again.book()), 400)
        self.assertEqual(called(again, ("bill", "haa")), "!BookFull")

    def test_the_walked_one_goes_on_alike(self):
        circle = small_circle()
        again = walk_rows(["news", "art"], circle.book())
        for deed, answer in DEEDS_DONE:
            self.assertEqual(called(again, deed), answer)
            self.assertEqual(called(circle, deed), answer)
            self.assertEqual(all_but_why(again), all_but_why(circle))

    def test_least_and_greatest_numbers(self):
        circle = circle_of(["news"], [
            ("price", 1, 1000000), ("price", 8, 0), ("join", "abcdefghijkl", "news", 1, 8), ("join", "z", "news", 8, 8),
            ("wish", "z", "news", 1, 1), ("deal", 3), ("lose", "z", 1000000), ("lose", "abcdefghijkl", 0), ("deal", 0),
        ])
        self.assertEqual(circle.book()[0], "price 1 1000000")
        self.check_walked(["news"], circle)


if __name__ == "__main__":
    unittest.main()
