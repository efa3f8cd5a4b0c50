"""Points 1, 5, 6, 10 and 16, and of point 20 BadCounts and UnknownFolder: the folders and their shelf."""

import itertools
import unittest

from papercircle.errors import BadCounts, UnknownFolder
from papercircle.folders import Shelf, age_in

GREAT = 10 ** 12


def told(shelf, last):
    return [shelf.folder(number) for number in range(1, last + 1)]


def three_weeks():
    # Numbers 1 to 3 in week 1, 4 to 6 in week 2, 7 to 9 in week 4; the kind 1 has none in week 2.
    shelf = Shelf(3)
    shelf.fill(1, [1, 1, 1])
    shelf.fill(2, [2, 0, 1])
    shelf.fill(4, [0, 3, 0])
    return shelf


class AgeInTest(unittest.TestCase):
    def test_week_of_making_and_later_ones(self):
        for made in (1, 2, 7, 150):
            for later in range(200):
                with self.subTest(made=made, later=later):
                    self.assertEqual(age_in(made, made + later), later + 1)

    def test_weeks_ahead(self):
        self.assertEqual(age_in(5, 4), 0)
        self.assertEqual(age_in(5, 3), -1)
        self.assertEqual(age_in(5, 1), -3)
        self.assertEqual(age_in(150, 1), -148)
        self.assertEqual(age_in(1, 0), 0)

    def test_great_numbers(self):
        self.assertEqual(age_in(GREAT, GREAT), 1)
        self.assertEqual(age_in(1, GREAT), GREAT)
        self.assertEqual(age_in(GREAT, 1), 2 - GREAT)
        self.assertEqual(age_in(-GREAT, GREAT), 2 * GREAT + 1)

    def test_whole_number(self):
        self.assertIs(type(age_in(1, 1)), int)


class FillTest(unittest.TestCase):
    def test_numbers_go_on_through_weeks_and_kinds(self):
        shelf = Shelf(3)
        self.assertEqual(shelf.fill(1, [1, 2, 3]), [1, 2, 3, 4, 5, 6])
        self.assertEqual(shelf.fill(2, [0, 1, 0]), [7])
        self.assertEqual(shelf.fill(3, [3, 0, 2]), [8, 9, 10, 11, 12])

    def test_folders_behind_the_numbers(self):
        shelf = Shelf(3)
        shelf.fill(1, [1, 2, 3])
        shelf.fill(2, [0, 1, 0])
        shelf.fill(3, [3, 0, 2])
        wanted = [(0, 1), (1, 1), (1, 1), (2, 1), (2, 1), (2, 1), (1, 2), (0, 3), (0, 3), (0, 3), (2, 3), (2, 3)]
        self.assertEqual(told(shelf, 12), [(kind, week, False) for kind, week in wanted])

    def test_a_folder_is_a_tuple_with_false_itself(self):
        shelf = Shelf(1)
        shelf.fill(1, [1])
        self.assertIs(type(shelf.folder(1)), tuple)
        self.assertIs(shelf.folder(1)[2], False)

    def test_the_answer_is_a_list(self):
        shelf = Shelf(2)
        self.assertIs(type(shelf.fill(1, [1, 1])), list)
        self.assertIs(type(shelf.fill(2, [0, 0])), list)

    def test_weeks_apart_from_one_another(self):
        shelf = Shelf(2)
        self.assertEqual(shelf.fill(3, [1, 1]), [1, 2])
        self.assertEqual(shelf.fill(17, [0, 2]), [3, 4])
        self.assertEqual(shelf.fill(GREAT, [1, 0]), [5])
        self.assertEqual(
            told(shelf, 5), [(0, 3, False), (1, 3, False), (1, 17, False), (1, 17, False), (0, GREAT, False)]
        )

    def test_weeks_without_new_folders(self):
        shelf = Shelf(2)
        self.assertEqual(shelf.fill(1, [0, 0]), [])
        self.assertEqual(shelf.fill(2, [1, 0]), [1])
        self.assertEqual(shelf.fill(3, [0, 0]), [])
        self.assertEqual(shelf.fill(4, [0, 1]), [2])
        self.assertEqual(told(shelf, 2), [(0, 2, False), (1, 4, False)])

    def test_all_counts_for_each_count_of_kinds(self):
        for many in range(1, 5):
            shelf = Shelf(many)
            last = 0
            for week, counts in enumerate(itertools.product(range(4), repeat=many), start=1):
                numbers = shelf.fill(week, list(counts))
                with self.subTest(counts=counts):
                    self.assertEqual(numbers, list(range(last + 1, last + 1 + sum(counts))))
                    kinds = [kind for kind, count in enumerate(counts) for new in range(count)]
                    self.assertEqual(
                        [shelf.folder(number) for number in numbers], [(kind, week, False) for kind in kinds]
                    )
                last += sum(counts)

    def test_all_weeks_of_a_circle(self):
        shelf = Shelf(4)
        for week in range(1, 151):
            self.assertEqual(shelf.fill(week, [3, 3, 3, 3]), list(range(12 * week - 11, 12 * week + 1)))
        self.assertEqual(shelf.folder(1), (0, 1, False))
        self.assertEqual(shelf.folder(1800), (3, 150, False))


class BadCountsTest(unittest.TestCase):
    def check(self, many, counts):
        shelf = Shelf(many)
        shelf.fill(1, [1] * many)
        handed = list(counts)
        with self.subTest(many=many, counts=counts):
            with self.assertRaises(BadCounts):
                shelf.fill(2, handed)
            self.assertEqual(handed, counts)
            with self.assertRaises(UnknownFolder):
                shelf.folder(many + 1)
            self.assertEqual(told(shelf, many), [(kind, 1, False) for kind in range(many)])
            for kind in range(many):
                self.assertEqual(shelf.offered(2, kind, 1, 8), [kind + 1])
            self.assertEqual(shelf.fill(2, [3] * many), list(range(many + 1, 4 * many + 1)))
            self.assertEqual(shelf.folder(many + 1), (0, 2, False))

    def test_empty_list(self):
        for many in range(1, 5):
            self.check(many, [])

    def test_too_short_and_too_long(self):
        for many in range(1, 5):
            for length in (many - 1, many + 1, many + 2, 500):
                for count in (0, 1, 3):
                    self.check(many, [count] * length)

    def test_a_bad_count_at_each_place(self):
        for many in range(1, 5):
            for place in range(many):
                for count in (-1, 4, 5, -GREAT, GREAT):
                    for other in (0, 1, 3):
                        counts = [other] * many
                        counts[place] = count
                        self.check(many, counts)

    def test_counts_whose_sum_is_right(self):
        self.check(2, [4, -1])
        self.check(2, [-1, 1])

    def test_no_folder_in_a_new_shelf(self):
        shelf = Shelf(1)
        with self.assertRaises(BadCounts):
            shelf.fill(1, [4])
        self.assertEqual(shelf.offered(1, 0, 1, 8), [])
        self.assertEqual(shelf.fill(1, [1]), [1])


class UnknownFolderTest(unittest.TestCase):
    def check(self, shelf, number):
        with self.subTest(number):
            with self.assertRaises(UnknownFolder):
                shelf.folder(number)
            with self.assertRaises(UnknownFolder):
                shelf.lose(number)

    def test_new_shelf(self):
        for number in (-GREAT, -1, 0, 1, 2, GREAT):
            self.check(Shelf(2), number)

    def test_numbers_that_no_folder_has(self):
        shelf = three_weeks()
        for number in (-GREAT, -10, -9, -8, -1, 0, 10, 11, 500, GREAT):
            self.check(shelf, number)
        self.assertEqual([folder[2] for folder in told(shelf, 9)], [False] * 9)

    def test_a_number_refused_and_made_later_is_not_lost(self):
        shelf = Shelf(1)
        shelf.fill(1, [1])
        self.check(shelf, 2)
        shelf.fill(2, [1])
        self.assertEqual(shelf.folder(2), (0, 2, False))
        self.assertEqual(shelf.offered(2, 0, 1, 8), [2, 1])


class LoseTest(unittest.TestCase):
    def test_the_lost_one_and_no_other(self):
        for lost in range(1, 10):
            shelf = three_weeks()
            before = told(shelf, 9)
            with self.subTest(lost):
                self.assertIsNone(shelf.lose(lost))
                after = told(shelf, 9)
                self.assertIs(after[lost - 1][2], True)
                self.assertEqual(after[lost - 1][:2], before[lost - 1][:2])
                self.assertEqual(after[: lost - 1] + after[lost:], before[: lost - 1] + before[lost:])

    def test_twice(self):
        shelf = three_weeks()
        shelf.lose(4)
        self.assertIsNone(shelf.lose(4))
        self.assertEqual(shelf.folder(4), (0, 2, True))
        self.assertEqual(shelf.offered(2, 0, 1, 8), [5, 1])

    def test_numbers_go_on_behind_a_lost_one(self):
        shelf = three_weeks()
        shelf.lose(9)
        self.assertEqual(shelf.fill(5, [1, 0, 0]), [10])
        self.assertEqual(shelf.folder(9), (1, 4, True))
        self.assertEqual(shelf.folder(10), (0, 5, False))


class OfferedTest(unittest.TestCase):
    def ten_weeks(self):
        # Two folders of the kind 0 a week: 2 * week - 1 and 2 * week.
        shelf = Shelf(1)
        for week in range(1, 11):
            shelf.fill(week, [2])
        return shelf

    def test_empty_shelf(self):
        shelf = Shelf(4)
        for kind in range(4):
            self.assertEqual(shelf.offered(1, kind, 1, 8), [])
        self.assertIs(type(shelf.offered(1, 0, 1, 8)), list)

    def test_newest_first_and_then_the_least_number(self):
        shelf = self.ten_weeks()
        self.assertEqual(shelf.offered(4, 0, 1, 8), [7, 8, 5, 6, 3, 4, 1, 2])
        self.assertEqual(shelf.offered(10, 0, 1, 3), [19, 20, 17, 18, 15, 16])

    def test_both_ends_of_the_ages(self):
        shelf = self.ten_weeks()
        self.assertEqual(shelf.offered(10, 0, 1, 1), [19, 20])
        self.assertEqual(shelf.offered(10, 0, 8, 8), [5, 6])
        self.assertEqual(shelf.offered(10, 0, 1, 8), [19, 20, 17, 18, 15, 16, 13, 14, 11, 12, 9, 10, 7, 8, 5, 6])

    def test_each_age_by_itself(self):
        shelf = self.ten_weeks()
        for age in range(1, 9):
            with self.subTest(age):
                week = 11 - age
                self.assertEqual(shelf.offered(10, 0, age, age), [2 * week - 1, 2 * week])

    def test_every_wish_in_every_week(self):
        shelf = self.ten_weeks()
        for week in range(1, 25):
            for least in range(1, 9):
                for most in range(least, 9):
                    ages = [(age_in((number + 1) // 2, week), number) for number in range(1, 21)]
                    wanted = [number for age, number in sorted(ages) if least <= age <= most]
                    with self.subTest(week=week, least=least, most=most):
                        self.assertEqual(shelf.offered(week, 0, least, most), wanted)

    def test_one_folder_grows_too_old(self):
        shelf = Shelf(1)
        shelf.fill(3, [1])
        self.assertEqual(shelf.offered(2, 0, 1, 8), [])
        self.assertEqual(shelf.offered(3, 0, 1, 8), [1])
        self.assertEqual(shelf.offered(10, 0, 1, 8), [1])
        self.assertEqual(shelf.offered(11, 0, 1, 8), [])
        self.assertEqual(shelf.offered(GREAT, 0, 1, 8), [])
        self.assertEqual(shelf.offered(3, 0, 2, 8), [])
        self.assertEqual(shelf.offered(4, 0, 1, 1), [])

    def test_three_of_one_week_and_kind(self):
        shelf = Shelf(2)
        shelf.fill(1, [3, 3])
        self.assertEqual(shelf.offered(1, 0, 1, 1), [1, 2, 3])
        self.assertEqual(shelf.offered(1, 1, 1, 1), [4, 5, 6])

    def test_kinds_apart(self):
        shelf = three_weeks()
        self.assertEqual(shelf.offered(4, 0, 1, 8), [4, 5, 1])
        self.assertEqual(shelf.offered(4, 1, 1, 8), [7, 8, 9, 2])
        self.assertEqual(shelf.offered(4, 2, 1, 8), [6, 3])

    def test_lost_ones_are_left_out(self):
        shelf = three_weeks()
        shelf.lose(8)
        shelf.lose(4)
        shelf.lose(3)
        self.assertEqual(shelf.offered(4, 0, 1, 8), [5, 1])
        self.assertEqual(shelf.offered(4, 1, 1, 8), [7, 9, 2])
        self.assertEqual(shelf.offered(4, 2, 1, 8), [6])
        shelf.lose(6)
        self.assertEqual(shelf.offered(4, 2, 1, 8), [])

    def test_most_in_a_row(self):
        shelf = Shelf(1)
        for week in range(1, 10):
            shelf.fill(week, [3])
        self.assertEqual(len(shelf.offered(9, 0, 1, 8)), 24)

    def test_asking_changes_nothing(self):
        shelf = three_weeks()
        before = told(shelf, 9)
        for week in (1, 4, 20):
            self.assertEqual(shelf.offered(week, 1, 1, 8), shelf.offered(week, 1, 1, 8))
        self.assertEqual(told(shelf, 9), before)
        self.assertEqual(shelf.fill(5, [0, 0, 1]), [10])


class ApartTest(unittest.TestCase):
    def test_two_shelves(self):
        one, other = Shelf(1), Shelf(1)
        one.fill(1, [2])
        self.assertEqual(other.offered(1, 0, 1, 8), [])
        with self.assertRaises(UnknownFolder):
            other.folder(1)
        other.fill(2, [2])
        one.lose(1)
        self.assertEqual(other.folder(1), (0, 2, False))
        self.assertEqual(one.folder(1), (0, 1, True))
        self.assertEqual(other.offered(2, 0, 1, 8), [1, 2])

    def test_the_list_handed_in_stays_and_is_not_kept(self):
        shelf = Shelf(2)
        counts = [1, 2]
        shelf.fill(1, counts)
        self.assertEqual(counts, [1, 2])
        counts[0] = 3
        counts.append(3)
        self.assertEqual(shelf.offered(1, 0, 1, 8), [1])
        self.assertEqual(shelf.fill(2, [1, 0]), [4])

    def test_changing_an_answer_changes_nothing(self):
        shelf = Shelf(1)
        numbers = shelf.fill(1, [2])
        numbers.append(77)
        numbers[0] = 99
        self.assertEqual(shelf.offered(1, 0, 1, 8), [1, 2])
        offered = shelf.offered(1, 0, 1, 1)
        offered.clear()
        self.assertEqual(shelf.offered(1, 0, 1, 1), [1, 2])
        self.assertIsNot(shelf.offered(1, 0, 1, 1), shelf.offered(1, 0, 1, 1))
        self.assertEqual(shelf.fill(2, [1]), [3])

    def test_changing_an_empty_answer_changes_nothing(self):
        shelf = Shelf(1)
        shelf.fill(1, [0]).append(5)
        shelf.offered(1, 0, 1, 8).append(5)
        self.assertEqual(shelf.offered(1, 0, 1, 8), [])
        self.assertEqual(shelf.offered(2, 0, 1, 8), [])


if __name__ == "__main__":
    unittest.main()
