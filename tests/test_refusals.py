"""Point 20: each refusal by its class and its word, through calls and rows, and which goes ahead of which."""

import unittest

from helpers import GREAT, MOST, REFUSALS, WORDS, all_told, called, circle_of, crowded_circle, fill_book, name_at
from helpers import row_of, small_circle
from papercircle import errors
from papercircle.circle import Circle
from papercircle.desk import answer_row, answer_rows, walk_rows


def last_week_circle():
    return circle_of(["news", "art"], [("deal", 0, 0)] * 150)


def sixty_circle():
    circle = Circle(["news", "art"])
    for place in range(60):
        circle.join(name_at(place), "news", 1, 8)
        if place % 4:
            circle.leave(name_at(place))
    return circle


# Each refusal where it alone is due: a circle, and the orders that are refused.
ALONE = [
    ("BadName", small_circle, [("join", name, "news", 1, 8) for name in ("Dora", "dora1", "abcdefghijklm", "-", "~")]),
    ("UnknownHouse", small_circle, [
        ("wish", "nobody", "news", 1, 8), ("leave", "nobody"), ("lose", "nobody", 5), ("bill", "nobody"),
        ("wished", "nobody"), ("holds", "nobody"), ("read", "nobody"), ("owes", "nobody"), ("unsent", "nobody"),
        ("bills", "nobody"), ("due", "nobody", 1), ("holds", "Anna"), ("bill", "ann"), ("leave", "annaa"), ("wish",
        "-", "news", 1, 8),
    ]),
    ("KnownHouse", small_circle, [("join", "anna", "news", 1, 8), ("join", "gone", "art", 2, 3)]),
    ("LeftHouse", small_circle, [("wish", "gone", "news", 1, 8), ("leave", "gone"), ("lose", "gone", 5)]),
    ("UnknownKind", small_circle, [("join", "dora", "sea", 1, 8), ("wish", "anna", "Art", 1, 8)]),
    ("BadAges", small_circle, [
        ("join", "dora", "news", 0, 8), ("join", "dora", "news", 1, 9), ("join", "dora", "news", 3, 2),
        ("wish", "anna", "news", 0, 8), ("wish", "anna", "news", 8, 9), ("wish", "anna", "news", 8, 7),
        ("price", 0, 0), ("price", 9, 0), ("cost", 0, 1), ("cost", 9, 4),
    ]),
    ("BadAmount", small_circle, [("price", 1, MOST + 1), ("lose", "anna", MOST + 1)]),
    ("Dearer", small_circle, [("price", 2, 91), ("price", 1, 49), ("price", 8, 1)]),
    ("BadCounts", small_circle, [("deal",), ("deal", 1), ("deal", 1, 1, 1), ("deal", 4, 0), ("deal", 0, 4)]),
    ("UnknownWeek", small_circle, [
        ("dealt", 0), ("dealt", 4), ("without", 0), ("without", 4), ("why", 0), ("why", 4), ("due", "anna", 0),
        ("due", "gone", 4), ("cost", 1, 0), ("cost", 8, 5),
    ]),
    ("UnknownFolder", small_circle, [("folder", 0), ("folder", 8), ("trail", 0), ("trail", 8), ("trail", 999999999)]),
    ("NoFolder", small_circle, [("lose", "bert", 0), ("lose", "bert", MOST)]),
    ("CircleFull", crowded_circle, [("join", "dora", "news", 1, 8)]),
    ("CircleFull", sixty_circle, [("join", "dora", "art", 1, 1)]),
    ("LastWeek", last_week_circle, [("deal", 0, 0), ("deal", 3, 3)]),
    ("BookFull", lambda: fill_book(small_circle()), [
        ("join", "dora", "news", 1, 8), ("wish", "anna", "art", 1, 1), ("leave", "anna"), ("lose", "anna", 5),
        ("price", 1, 90), ("bill", "anna"), ("bill", "gone"), ("deal", 0, 0),
    ]),
]

# Where several are due: the first of these names is raised.
SEVERAL = [
    ("BadName UnknownKind", small_circle, ("join", "Dora", "sea", 1, 8)),
    ("BadName BadAges", small_circle, ("join", "Dora", "news", 0, 8)),
    ("BadName CircleFull", crowded_circle, ("join", "Dora", "news", 1, 8)),
    ("BadName BookFull", lambda: fill_book(small_circle()), ("join", "Dora", "news", 1, 8)),
    ("BadName UnknownKind BadAges CircleFull BookFull", lambda: fill_book(crowded_circle()), (
        "join", "Dora", "sea", 9, 1,
    )),
    ("UnknownHouse UnknownKind", small_circle, ("wish", "nobody", "sea", 1, 8)),
    ("UnknownHouse BadAges", small_circle, ("wish", "nobody", "news", 0, 8)),
    ("UnknownHouse BadAmount", small_circle, ("lose", "nobody", MOST + 1)),
    ("UnknownHouse UnknownWeek", small_circle, ("due", "nobody", 4)),
    ("UnknownHouse BookFull", lambda: fill_book(small_circle()), ("wish", "nobody", "news", 1, 8)),
    ("UnknownHouse BookFull", lambda: fill_book(small_circle()), ("leave", "nobody")),
    ("UnknownHouse BookFull", lambda: fill_book(small_circle()), ("lose", "nobody", 5)),
    ("UnknownHouse BookFull", lambda: fill_book(small_circle()), ("bill", "nobody")),
    ("KnownHouse LeftHouse", small_circle, ("join", "gone", "news", 1, 8)),
    ("KnownHouse UnknownKind", small_circle, ("join", "anna", "sea", 1, 8)),
    ("KnownHouse BadAges", small_circle, ("join", "anna", "news", 1, 9)),
    ("KnownHouse CircleFull", crowded_circle, ("join", "haa", "news", 1, 8)),
    ("KnownHouse CircleFull", sixty_circle, ("join", "haa", "news", 1, 8)),
    ("KnownHouse BookFull", lambda: fill_book(small_circle()), ("join", "anna", "news", 1, 8)),
    ("LeftHouse UnknownKind", small_circle, ("wish", "gone", "sea", 1, 8)),
    ("LeftHouse BadAges", small_circle, ("wish", "gone", "news", 0, 8)),
    ("LeftHouse BadAmount NoFolder", small_circle, ("lose", "gone", MOST + 1)),
    ("LeftHouse NoFolder", small_circle, ("lose", "gone", 5)),
    ("LeftHouse BookFull", lambda: fill_book(small_circle()), ("wish", "gone", "news", 1, 8)),
    ("LeftHouse BookFull", lambda: fill_book(small_circle()), ("leave", "gone")),
    ("LeftHouse BookFull", lambda: fill_book(small_circle()), ("lose", "gone", 5)),
    ("UnknownKind BadAges", small_circle, ("join", "dora", "sea", 0, 9)),
    ("UnknownKind BadAges", small_circle, ("wish", "anna", "sea", 0, 9)),
    ("UnknownKind CircleFull", crowded_circle, ("join", "dora", "sea", 1, 8)),
    ("UnknownKind BookFull", lambda: fill_book(small_circle()), ("join", "dora", "sea", 1, 8)),
    ("UnknownKind BookFull", lambda: fill_book(small_circle()), ("wish", "anna", "sea", 1, 8)),
    ("BadAges BadAmount", small_circle, ("price", 9, MOST + 1)),
    ("BadAges UnknownWeek", small_circle, ("cost", 9, 5)),
    ("BadAges UnknownWeek", small_circle, ("cost", 0, 0)),
    ("BadAges CircleFull", crowded_circle, ("join", "dora", "news", 0, 8)),
    ("BadAges BookFull", lambda: fill_book(small_circle()), ("join", "dora", "news", 0, 8)),
    ("BadAges BookFull", lambda: fill_book(small_circle()), ("wish", "anna", "news", 0, 8)),
    ("BadAges BookFull", lambda: fill_book(small_circle()), ("price", 9, 0)),
    ("BadAmount Dearer", small_circle, ("price", 2, MOST + 1)),
    ("BadAmount NoFolder", small_circle, ("lose", "bert", MOST + 1)),
    ("BadAmount BookFull", lambda: fill_book(small_circle()), ("price", 1, MOST + 1)),
    ("BadAmount BookFull", lambda: fill_book(small_circle()), ("lose", "anna", MOST + 1)),
    ("Dearer BookFull", lambda: fill_book(small_circle()), ("price", 2, 91)),
    ("BadCounts LastWeek", last_week_circle, ("deal", 4, 0)),
    ("BadCounts LastWeek", last_week_circle, ("deal",)),
    ("BadCounts BookFull", lambda: fill_book(small_circle()), ("deal", 0)),
    ("BadCounts LastWeek BookFull", lambda: fill_book(last_week_circle()), ("deal", 0, 0, 0)),
    ("NoFolder BookFull", lambda: fill_book(small_circle()), ("lose", "bert", 5)),
    ("CircleFull BookFull", lambda: fill_book(crowded_circle()), ("join", "dora", "news", 1, 8)),
    ("LastWeek BookFull", lambda: fill_book(last_week_circle()), ("deal", 0, 0)),
]


class EachRefusalTest(unittest.TestCase):
    def check_refused(self, circle, order, name):
        told = all_told(circle)
        with self.subTest(order=order, name=name):
            self.assertEqual(called(circle, order), "!" + name)
            self.assertEqual(all_told(circle), told)
            self.assertEqual(answer_row(circle, row_of(order)), "refused: " + WORDS[name])
            self.assertEqual(all_told(circle), told)

    def test_where_it_alone_is_due(self):
        for name, make, orders in ALONE:
            circle = make()
            for order in orders:
                self.check_refused(circle, order, name)

    def test_where_several_are_due(self):
        for names, make, order in SEVERAL:
            self.check_refused(make(), order, names.split()[0])

    def test_the_names_above_stand_in_the_order_of_the_document(self):
        order = [name for name, word in REFUSALS]
        for names, make, asked in SEVERAL:
            places = [order.index(name) for name in names.split()]
            self.assertEqual(places, sorted(places))

    def test_all_seventeen_are_met_here(self):
        met = {name for name, make, orders in ALONE} | {"BadKinds", "BadOrder"}
        self.assertEqual(met, {name for name, word in REFUSALS})
        self.assertEqual(len(REFUSALS), 17)

    def test_bad_kinds(self):
        for kinds in ([], ["News"], ["a", "a"], ["a", "b", "c", "d", "e"]):
            for make in (Circle, lambda kinds: answer_rows(kinds, []), lambda kinds: walk_rows(kinds, [])):
                with self.assertRaises(errors.BadKinds) as caught:
                    make(kinds)
                self.assertEqual(caught.exception.word(), "bad kinds")

    def test_bad_kinds_goes_ahead_of_all(self):
        with self.assertRaises(errors.BadKinds):
            walk_rows(["News"], ["nonsense"])
        with self.assertRaises(errors.BadKinds):
            answer_rows(["News"], ["nonsense"])

    def test_bad_order_goes_ahead_of_all_others(self):
        for circle in (small_circle(), fill_book(crowded_circle()), fill_book(last_week_circle())):
            told = all_told(circle)
            for row in (
                "join Dora sea 0 x", "join Dora sea 0", "join anna news 1 8 8", "wish nobody sea x 9", "leave",
                "leave gone now",
                "lose nobody x", "lose gone", "bill nobody now", "price 9 -1", "price 9", "deal x", "deal 4 4 x",
                "deal 0 00",
                "due nobody x", "cost 9 x", "cost 9", "folder x", "folder", "trail 01", "dealt x", "why", "without 1 1",
            ):
                with self.subTest(row):
                    self.assertEqual(answer_row(circle, row), "refused: bad order")
                    self.assertEqual(all_told(circle), told)
                    with self.assertRaises(errors.BadOrder):
                        walk_rows(["news", "art"], [row])

    def test_numbers_that_only_calls_can_hand_in(self):
        circle = small_circle()
        told = all_told(circle)
        for name, orders in (
            ("BadAges", [("join", "dora", "news", -1, 8), ("wish", "anna", "news", 1, GREAT), ("price", -GREAT, 0),
            ("cost", -1, 1)]),
            ("BadAmount", [("price", 1, -1), ("lose", "anna", -1), ("lose", "anna", -GREAT), ("price", 2, GREAT)]),
            ("BadCounts", [("deal", -1, 0), ("deal", 0, -GREAT), ("deal", GREAT, GREAT)]),
            ("UnknownWeek", [("dealt", -1), ("why", -3), ("without", GREAT), ("due", "anna", -1), ("cost", 1, -GREAT)]),
            ("UnknownFolder", [("folder", -1), ("trail", -7), ("folder", GREAT), ("trail", -GREAT)]),
        ):
            for order in orders:
                with self.subTest(order):
                    self.assertEqual(called(circle, order), "!" + name)
        self.assertEqual(all_told(circle), told)

    def test_names_that_only_calls_can_hand_in(self):
        circle = small_circle()
        for name in ("", " ", "an na", "anna ", " anna"):
            self.assertEqual(called(circle, ("join", name, "news", 1, 8)), "!BadName")
            self.assertEqual(called(circle, ("bill", name)), "!UnknownHouse")
            self.assertEqual(called(circle, ("join", "dora", name, 1, 8)), "!UnknownKind")


if __name__ == "__main__":
    unittest.main()
