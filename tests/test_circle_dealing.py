"""Points 5, 6 and 9 to 13 through the calls of Circle: new folders, what fits, the dealing, and why no more."""

import unittest

from helpers import GREAT, all_told, called, circle_of, name_at, small_circle
from papercircle.circle import Circle
from papercircle.errors import BadCounts, UnknownFolder, UnknownWeek


def joined(kinds, wishes):
    return circle_of(kinds, [("join", house) + wish for house, wish in wishes.items()])


class NewFoldersTest(unittest.TestCase):
    def test_numbered_by_weeks_and_kinds(self):
        circle = Circle(["news", "art", "sea"])
        circle.deal([2, 0, 1])
        circle.deal([0, 0, 0])
        circle.deal([1, 3, 0])
        told = [circle.folder(number) for number in range(1, 8)]
        self.assertEqual(told, [
            ("news", 1, False), ("news", 1, False), ("sea", 1, False),
            ("news", 3, False), ("art", 3, False), ("art", 3, False), ("art", 3, False),
        ])
        for number in (-GREAT, -1, 0, 8, 9, GREAT):
            with self.assertRaises(UnknownFolder):
                circle.folder(number)
            with self.assertRaises(UnknownFolder):
                circle.trail(number)

    def test_none_and_three_of_each_of_four_kinds(self):
        kinds = ["news", "art", "sea", "home"]
        circle = Circle(kinds)
        circle.deal([0, 0, 0, 0])
        self.assertEqual(called(circle, ("folder", 1)), "!UnknownFolder")
        circle.deal([3, 3, 3, 3])
        told = [circle.folder(number) for number in range(1, 13)]
        self.assertEqual(told, [(kind, 2, False) for kind in kinds for turn in range(3)])
        self.assertEqual(called(circle, ("folder", 13)), "!UnknownFolder")

    def test_three_a_week_through_all_weeks(self):
        circle = Circle(["news", "art", "sea", "home"])
        for week in range(150):
            circle.deal([3, 3, 3, 3])
        self.assertEqual(circle.folder(1800), ("home", 150, False))
        self.assertEqual(circle.folder(1789), ("news", 150, False))
        self.assertEqual(called(circle, ("folder", 1801)), "!UnknownFolder")

    def test_bad_counts(self):
        circle = small_circle()
        told = all_told(circle)
        for counts in (
            [], [1], [1, 1, 1], [4, 0], [0, 4], [-1, 0], [0, -1], [GREAT, 0], [0, -GREAT], [0] * 500, [4], [4, 4, 4],
        ):
            with self.subTest(counts):
                with self.assertRaises(BadCounts):
                    circle.deal(counts)
                self.assertEqual(all_told(circle), told)

    def test_a_refused_dealing_makes_no_folder(self):
        circle = Circle(["news", "art"])
        for counts in ([2, 4], [3], [3, -1]):
            with self.assertRaises(BadCounts):
                circle.deal(counts)
        circle.deal([0, 1])
        self.assertEqual(circle.folder(1), ("art", 1, False))

    def test_folders_are_made_with_nobody_there(self):
        circle = Circle(["news"])
        self.assertEqual(circle.deal([3]), 1)
        self.assertEqual((circle.dealt(1), circle.without(1), circle.why(1)), ([], [], ([], [])))
        circle.join("anna", "news", 2, 8)
        circle.deal([3])
        self.assertEqual(circle.dealt(2), [("anna", 1)])


class AgesTest(unittest.TestCase):
    def test_one_to_eight(self):
        # The one folder is made in week 1; a house of each age takes it in the week in which it has that age.
        for age in range(1, 9):
            circle = joined(["news"], {"anna": ("news", age, age)})
            circle.deal([1])
            for week in range(2, 12):
                circle.deal([0])
            with self.subTest(age):
                self.assertEqual(circle.trail(1), [(age, "anna")])
                self.assertEqual(circle.read("anna"), [("news", 1)])
                self.assertEqual([week for week in range(1, 12) if circle.without(week) == []], [age])

    def test_older_than_eight_is_dealt_no_more(self):
        circle = joined(["news"], {name_at(place): ("news", 1, 8) for place in range(9)})
        circle.deal([1])
        for week in range(2, 10):
            circle.deal([0])
        self.assertEqual(circle.trail(1), [(week, name_at(week - 1)) for week in range(1, 9)])
        self.assertEqual(circle.dealt(9), [])
        self.assertEqual(circle.without(9), [name_at(place) for place in range(9)])
        self.assertEqual(circle.why(9), ([name_at(place) for place in range(9)], []))

    def test_the_least_and_the_greatest_age_are_taken(self):
        circle = joined(["news"], {"anna": ("news", 3, 5)})
        for week in range(1, 9):
            circle.deal([1 if week == 1 else 0])
        self.assertEqual(circle.trail(1), [(3, "anna")])
        circle = circle_of(["news"], [("deal", 1), ("deal", 0), ("deal", 0), ("deal", 0)])
        circle.join("anna", "news", 3, 5)
        circle.deal([0])
        self.assertEqual(circle.dealt(5), [("anna", 1)])
        circle.join("bert", "news", 3, 5)
        circle.deal([0])
        self.assertEqual(circle.dealt(6), [])


class FitTest(unittest.TestCase):
    def test_only_the_kind_of_the_wish(self):
        circle = joined(["news", "art"], {"anna": ("art", 1, 8), "bert": ("news", 1, 8)})
        circle.deal([2, 0])
        self.assertEqual((circle.dealt(1), circle.without(1)), ([("bert", 1)], ["anna"]))
        circle.deal([0, 1])
        self.assertEqual((circle.dealt(2), circle.without(2)), ([("anna", 3)], ["bert"]))

    def test_the_same_papers_come_once_in_whatever_folder(self):
        circle = joined(["news"], {"anna": ("news", 1, 8)})
        circle.deal([3])
        for week in range(2, 10):
            circle.deal([0])
        self.assertEqual(circle.read("anna"), [("news", 1)])
        self.assertEqual([circle.trail(number) for number in (1, 2, 3)], [[(1, "anna")], [], []])

    def test_papers_of_another_week_or_kind_are_others(self):
        circle = joined(["news", "art"], {"anna": ("news", 1, 8)})
        circle.deal([1, 1])
        circle.deal([1, 1])
        circle.wish("anna", "art", 1, 8)
        for week in range(3, 6):
            circle.deal([0, 0])
        self.assertEqual(circle.read("anna"), [("news", 1), ("news", 2), ("art", 2), ("art", 1)])

    def test_an_older_one_is_taken_where_the_newer_papers_were_read(self):
        circle = circle_of(["news"], [("deal", 1), ("deal", 1), ("deal", 1), ("join", "anna", "news", 1, 8)])
        for week in range(4, 8):
            circle.deal([0])
        self.assertEqual(circle.read("anna"), [("news", 3), ("news", 2), ("news", 1)])
        self.assertEqual(circle.without(7), ["anna"])

    def test_papers_stay_read_when_their_folder_is_lost(self):
        circle = joined(["news"], {"anna": ("news", 1, 8)})
        circle.deal([2])
        self.assertEqual(circle.lose("anna", 0), 1)
        circle.deal([0])
        self.assertEqual((circle.dealt(2), circle.read("anna")), ([], [("news", 1)]))

    def test_a_lost_folder_fits_nobody(self):
        circle = joined(["news"], {"anna": ("news", 1, 8), "bert": ("news", 1, 8)})
        circle.deal([1])
        circle.lose("anna", 10)
        circle.deal([0])
        self.assertEqual((circle.dealt(2), circle.why(2)), ([], (["anna", "bert"], [])))
        self.assertEqual(circle.trail(1), [(1, "anna")])

    def test_another_folder_of_the_lost_ones_papers_goes_on(self):
        circle = joined(["news"], {"anna": ("news", 1, 8), "bert": ("news", 2, 8)})
        circle.deal([2])
        circle.lose("anna", 10)
        circle.deal([0])
        self.assertEqual(circle.dealt(2), [("bert", 2)])


class WhoIsDealtTest(unittest.TestCase):
    def test_by_the_wishes_as_they_are_then(self):
        circle = joined(["news", "art"], {"anna": ("news", 1, 8)})
        circle.wish("anna", "art", 1, 8)
        circle.deal([1, 1])
        circle.wish("anna", "news", 3, 3)
        circle.deal([0, 0])
        circle.deal([0, 0])
        self.assertEqual([circle.dealt(week) for week in (1, 2, 3)], [[("anna", 2)], [], [("anna", 1)]])

    def test_only_those_that_stand_then(self):
        circle = joined(["news"], {"anna": ("news", 1, 8), "bert": ("news", 1, 8)})
        circle.leave("anna")
        circle.deal([1])
        circle.join("carl", "news", 1, 8)
        self.assertEqual((circle.dealt(1), circle.without(1)), ([("bert", 1)], []))
        circle.deal([0])
        self.assertEqual((circle.dealt(2), circle.without(2)), ([("carl", 1)], ["bert"]))

    def test_all_stand_in_one_of_both_lists(self):
        circle = small_circle()
        for week, standing in ((1, "anna bert carl gone"), (2, "anna bert carl gone"), (3, "anna bert carl")):
            had = [house for house, number in circle.dealt(week)]
            self.assertEqual(sorted(had + circle.without(week)), standing.split())

    def test_unknown_weeks(self):
        circle = small_circle()
        for week in (-GREAT, -1, 0, 4, 5, 151, GREAT):
            for ask in (circle.dealt, circle.without, circle.why):
                with self.subTest(week):
                    with self.assertRaises(UnknownWeek):
                        ask(week)


class BestDealingTest(unittest.TestCase):
    def test_the_first_that_joined_goes_ahead(self):
        circle = joined(["news"], {"zoe": ("news", 1, 8), "anna": ("news", 1, 8)})
        circle.deal([1])
        self.assertEqual((circle.dealt(1), circle.without(1)), ([("zoe", 1)], ["anna"]))

    def test_as_many_as_possible_goes_ahead_of_the_first(self):
        # Both folders fit anna, the newer one alone fits bert.
        circle = circle_of(["news"], [
            ("deal", 1), ("join", "anna", "news", 1, 2), ("join", "bert", "news", 1, 1), ("deal", 1),
        ])
        self.assertEqual(circle.dealt(2), [("anna", 1), ("bert", 2)])

    def test_a_newer_one_is_better_whatever_its_number(self):
        circle = circle_of(["news"], [("deal", 1), ("join", "anna", "news", 1, 8), ("deal", 1)])
        self.assertEqual(circle.dealt(2), [("anna", 2)])

    def test_of_the_same_age_the_lesser_number(self):
        circle = joined(["news", "art"], {"anna": ("art", 1, 8), "bert": ("art", 1, 8), "carl": ("art", 1, 8)})
        circle.deal([3, 3])
        self.assertEqual(circle.dealt(1), [("anna", 4), ("bert", 5), ("carl", 6)])

    def test_any_folder_is_better_than_none(self):
        circle = circle_of(["news"], [("deal", 1)] + [("deal", 0)] * 6 + [("join", "anna", "news", 1, 8), ("deal", 0)])
        self.assertEqual(circle.dealt(8), [("anna", 1)])

    def test_the_first_ones_better_folder_decides_who_stays_without(self):
        # Two can be served in each way; anna's newer one leaves bert without, not carl.
        circle = circle_of(["news"], [
            ("deal", 1), ("join", "anna", "news", 1, 2), ("join", "bert", "news", 1, 1), ("join", "carl", "news", 2, 2),
            ("deal", 1),
        ])
        self.assertEqual((circle.dealt(2), circle.without(2)), ([("anna", 2), ("carl", 1)], ["bert"]))

    def test_a_chain_of_ages(self):
        # Each house takes an age and the next; the last one takes only what all those ahead would like best.
        orders = [("deal", 1)] * 7
        orders += [("join", name_at(age), "news", age, age + 1) for age in range(1, 8)]
        circle = circle_of(["news"], orders + [("join", "zoe", "news", 1, 1), ("deal", 1)])
        self.assertEqual(circle.dealt(8), [(name_at(age), 8 - age) for age in range(1, 8)] + [("zoe", 8)])

    def test_in_the_order_of_joining(self):
        circle = joined(["news", "art"], {"zoe": ("art", 1, 8), "mark": ("news", 1, 8), "anna": ("art", 1, 8)})
        circle.deal([1, 2])
        self.assertEqual(circle.dealt(1), [("zoe", 2), ("mark", 1), ("anna", 3)])
        circle.deal([0, 0])
        self.assertEqual(circle.without(2), ["zoe", "mark", "anna"])

    def test_twenty_houses_and_folders_of_all_ages(self):
        circle = circle_of(["news"], [("deal", 3)] * 7)
        for place in range(20):
            circle.join(name_at(place), "news", 1, 8)
        circle.deal([3])
        newest_first = [number for week in range(8, 0, -1) for number in range(3 * week - 2, 3 * week + 1)]
        self.assertEqual(circle.dealt(8), [(name_at(place), newest_first[place]) for place in range(20)])


class WhyTest(unittest.TestCase):
    def check(self, circle, week, fits):
        """Point 13 for a week, where `fits` tells for each house that stood which folders fitted it."""
        why = circle.why(week)
        self.assertIs(type(why), tuple)
        houses, numbers = why
        self.assertEqual((type(houses), type(numbers)), (list, list))
        self.assertEqual(houses, [house for house in fits if house in houses])
        self.assertEqual(numbers, sorted({number for house in houses for number in fits[house]}))
        self.assertEqual(len(houses) - len(numbers), len(circle.without(week)))

    def test_one_of_two(self):
        circle = joined(["news"], {"anna": ("news", 1, 8), "bert": ("news", 1, 8)})
        circle.deal([1])
        self.assertEqual(circle.why(1), (["anna", "bert"], [1]))

    def test_nothing_fits(self):
        circle = joined(["news"], {"anna": ("news", 2, 8)})
        circle.deal([1])
        self.assertEqual(circle.why(1), (["anna"], []))

    def test_nobody_stayed_without(self):
        circle = joined(["news"], {"anna": ("news", 1, 8), "bert": ("news", 1, 8)})
        circle.deal([2])
        self.check(circle, 1, {"anna": [1, 2], "bert": [1, 2]})

    def test_all_folders_that_fitted_one_of_them(self):
        circle = joined(["news", "art"], {name_at(place): ("news", 1, 8) for place in range(5)})
        circle.join("zoe", "art", 1, 8)
        circle.deal([3, 2])
        fits = {name_at(place): [1, 2, 3] for place in range(5)}
        fits["zoe"] = [4, 5]
        self.check(circle, 1, fits)
        self.assertEqual(circle.without(1), [name_at(3), name_at(4)])

    def test_numbers_rise(self):
        # The newer folder stands ahead for each house, but the lesser number is told first.
        circle = circle_of(["news"], [("deal", 1)] + [("join", name_at(place), "news", 1, 8) for place in range(3)])
        circle.deal([1])
        self.assertEqual(circle.why(2), ([name_at(0), name_at(1), name_at(2)], [1, 2]))

    def test_numbers_far_apart_rise(self):
        circle = circle_of(["news", "art"], [("deal", 1, 3), ("deal", 0, 3), ("deal", 1, 3), ("deal", 0, 3)])
        for place in range(5):
            circle.join(name_at(place), "news", 1, 8)
        circle.deal([2, 0])
        self.assertEqual(circle.why(5), ([name_at(place) for place in range(5)], [1, 8, 15, 16]))

    def test_two_kinds_that_are_both_short(self):
        circle = joined(["news", "art"], {
            "zoe": ("art", 1, 8), "yves": ("news", 1, 8), "xaver": ("art", 1, 8), "will": ("news", 1, 8),
        })
        circle.deal([1, 1])
        self.assertEqual(circle.why(1), (["zoe", "yves", "xaver", "will"], [1, 2]))

    def test_those_with_a_folder_that_others_want_are_among_them(self):
        circle = circle_of(["news"], [
            ("deal", 1), ("join", "anna", "news", 1, 2), ("join", "bert", "news", 1, 1), ("join", "carl", "news", 2, 2),
            ("deal", 1),
        ])
        self.check(circle, 2, {"anna": [2, 1], "bert": [2], "carl": [1]})

    def test_twenty_houses(self):
        circle = joined(["news"], {name_at(place): ("news", 1, 8) for place in range(20)})
        circle.deal([3])
        self.assertEqual(circle.why(1), ([name_at(place) for place in range(20)], [1, 2, 3]))
        self.assertEqual(len(circle.without(1)), 17)


class TrailTest(unittest.TestCase):
    def test_by_weeks(self):
        circle = joined(["news"], {"zoe": ("news", 1, 8), "mark": ("news", 1, 8), "anna": ("news", 1, 8)})
        circle.deal([1])
        self.assertEqual(circle.trail(1), [(1, "zoe")])
        circle.deal([1])
        self.assertEqual((circle.trail(1), circle.trail(2)), ([(1, "zoe"), (2, "mark")], [(2, "zoe")]))
        circle.deal([0])
        self.assertEqual((circle.trail(1), circle.trail(2)), (
            [(1, "zoe"), (2, "mark"), (3, "anna")], [(2, "zoe"), (3, "mark")],
        ))

    def test_a_week_in_which_nobody_had_it(self):
        circle = joined(["news"], {"anna": ("news", 1, 1), "bert": ("news", 3, 3)})
        for week in range(4):
            circle.deal([1 if week == 0 else 0])
        self.assertEqual(circle.trail(1), [(1, "anna"), (3, "bert")])

    def test_nobody_ever(self):
        circle = Circle(["news"])
        circle.deal([1])
        self.assertEqual(circle.trail(1), [])


if __name__ == "__main__":
    unittest.main()
