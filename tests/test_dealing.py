"""Points 1, 11, 12 and 13: as many rows served as possible, the best for those ahead, and why no more."""

import itertools
import random
import unittest

from papercircle.dealing import most_served, serve_rows, short_rows

GREAT = 10 ** 12


def all_dealings(rows):
    """Every way to deal, as lists of places in the rows (len(row) for none), found by plain listing."""
    found = []
    for choice in itertools.product(*[range(len(row) + 1) for row in rows]):
        numbers = [row[place] for row, place in zip(rows, choice) if place < len(row)]
        if len(numbers) == len(set(numbers)):
            found.append(choice)
    return found


def listed_best(rows):
    # None stands behind all numbers of a row, so the least choice is the best one for the rows ahead.
    def many(choice):
        return sum(place < len(row) for row, place in zip(rows, choice))

    most = max(many(choice) for choice in all_dealings(rows))
    best = min(choice for choice in all_dealings(rows) if many(choice) == most)
    return most, [row[place] if place < len(row) else None for row, place in zip(rows, best)]


class DealingTest(unittest.TestCase):
    def check_form(self, rows):
        """All that the three answers promise of one another, without a second way to find them."""
        handed = [list(row) for row in rows]
        most, served, short = most_served(handed), serve_rows(handed), short_rows(handed)
        self.assertEqual(handed, rows)
        self.assertIs(type(most), int)
        self.assertIs(type(served), list)
        self.assertIs(type(short), list)
        self.assertEqual(len(served), len(rows))
        given = [number for number in served if number is not None]
        self.assertEqual(len(given), len(set(given)))
        for number, row in zip(served, rows):
            self.assertTrue(number is None or number in row)
        self.assertEqual(len(given), most)
        self.assertEqual(short, sorted(set(short)))
        self.assertTrue(all(0 <= place < len(rows) for place in short))
        numbers = {number for place in short for number in rows[place]}
        # These rows are the evidence: no dealing whatever can leave fewer rows without.
        self.assertEqual(len(short) - len(numbers), served.count(None))
        return served

    def check(self, rows, wanted):
        with self.subTest(rows=rows):
            self.assertEqual(self.check_form(rows), wanted)

    def check_listed(self, rows):
        most, wanted = listed_best(rows)
        with self.subTest(rows=rows):
            self.assertEqual(most_served(rows), most)
            self.assertEqual(self.check_form(rows), wanted)

    def test_no_rows(self):
        self.check([], [])
        self.assertEqual(most_served([]), 0)
        self.assertEqual(short_rows([]), [])

    def test_empty_rows(self):
        self.check([[]], [None])
        self.check([[], [], []], [None, None, None])
        self.check([[], [5], []], [None, 5, None])
        self.assertEqual(most_served([[], [5], []]), 1)
        self.assertEqual(most_served([[] for row in range(20)]), 0)

    def test_one_row(self):
        self.check([[7]], [7])
        self.check([[9, 2, 4]], [9])
        self.assertEqual(most_served([[9, 2, 4]]), 1)

    def test_what_stands_ahead_is_better_whatever_its_number(self):
        self.check([[3, 1, 2], [1, 3, 2]], [3, 1])
        self.check([[3, 1, 2], [3, 2, 1]], [3, 2])

    def test_rows_alike(self):
        self.check([[1, 2, 3]] * 3, [1, 2, 3])
        self.check([[4, 1]] * 4, [4, 1, None, None])
        self.check([[6]] * 20, [6] + [None] * 19)
        self.assertEqual(most_served([[4, 1]] * 4), 2)

    def test_as_many_as_possible_goes_ahead_of_the_first_house(self):
        self.check([[1, 2], [1]], [2, 1])
        self.check([[1, 2], [1, 3], [1], [3]], [2, 1, None, 3])

    def test_the_first_house_goes_ahead_of_who_is_served(self):
        # Two can be served; the second row stays without for the sake of the first one's better number.
        self.check([[1, 2], [1], [2]], [1, None, 2])

    def test_another_row_than_the_one_that_gave_way_is_served(self):
        self.check([[3, 1, 2], [3], [1], [2]], [3, None, 1, 2])
        self.check([[1], [2, 1], [2], [1]], [1, 2, None, None])

    def test_chain_with_the_first_number_wanted_alone(self):
        for length in range(1, 20):
            rows = [[place, place + 1] for place in range(1, length + 1)]
            self.check(rows, list(range(1, length + 1)))
            self.check(rows + [[1]], list(range(2, length + 2)) + [1])
            self.check([[1]] + rows, list(range(1, length + 2)))

    def test_chain_with_one_row_too_many(self):
        rows = [[place, place + 1] for place in range(1, 19)] + [[1], [19]]
        self.assertEqual(most_served(rows), 19)
        self.check(rows, list(range(1, 19)) + [None, 19])

    def test_chain_the_other_way_round(self):
        rows = [[place + 1, place] for place in range(1, 20)]
        self.check(rows, list(range(2, 21)))
        self.check(rows + [[20]], list(range(1, 20)) + [20])

    def test_great_numbers_and_zero(self):
        self.check([[0]], [0])
        self.check([[0], [0]], [0, None])
        self.check([[0, GREAT], [0]], [GREAT, 0])
        self.check([[GREAT, GREAT - 1, 0], [GREAT], [0]], [GREAT - 1, GREAT, 0])
        self.assertEqual(most_served([[0, GREAT], [0], [GREAT]]), 2)

    def test_twenty_rows_of_twenty_four(self):
        numbers = list(range(1, 25))
        self.check([list(numbers) for row in range(20)], numbers[:20])
        self.check([numbers[::-1] for row in range(20)], numbers[::-1][:20])
        turned = [numbers[place:] + numbers[:place] for place in range(20)]
        self.check(turned, numbers[:20])

    def test_twenty_rows_of_twenty_four_apart_and_crossed(self):
        apart = [list(range(24 * place, 24 * place + 24)) for place in range(20)]
        self.check(apart, [24 * place for place in range(20)])
        # The rows behind want one number each, so those ahead are left with what stands last for them.
        crossed = [list(range(24)) for place in range(8)] + [[place] for place in range(12)]
        self.check(crossed, list(range(12, 20)) + list(range(12)))

    def test_more_rows_than_numbers(self):
        self.check([[1, 2, 3]] * 20, [1, 2, 3] + [None] * 17)
        self.check([[1, 2], [2, 3], [3, 1], [1, 2, 3]], [1, 2, 3, None])

    def test_short_rows_leave_out_those_apart(self):
        self.assertEqual(short_rows([[1], [2]] + [[3]] * 3)[-3:], [2, 3, 4])
        rows = [[1, 2], [5], [5], [5, 6], [7]]
        self.assertEqual(most_served(rows), 4)
        self.check(rows, [1, 5, None, 6, 7])

    def test_all_small_rows(self):
        orders = [list(order) for size in range(4) for order in itertools.permutations((1, 2, 3), size)]
        for rows in itertools.product(orders, repeat=3):
            self.check_listed([list(row) for row in rows])

    def test_small_rows_against_the_listing(self):
        source = random.Random(1)
        for turn in range(1500):
            numbers = range(source.randint(1, 5))
            rows = []
            for place in range(source.randint(0, 6)):
                rows.append(source.sample(numbers, source.randint(0, min(3, len(numbers)))))
            self.check_listed(rows)

    def test_great_rows_against_one_another(self):
        source = random.Random(2)
        for turn in range(300):
            numbers = range(source.randint(1, 40))
            longest = source.choice((1, 2, 3, 6, 24))
            rows = []
            for place in range(source.randint(10, 20)):
                rows.append(source.sample(numbers, source.randint(0, min(longest, len(numbers)))))
            with self.subTest(rows=rows):
                self.check_form(rows)
                self.check_no_better(rows)

    def check_no_better(self, rows):
        # Row by row: with a better number for it, the rest settled or open, fewer rows would be served.
        served = serve_rows(rows)
        left = [list(row) for row in rows]
        for place, number in enumerate(served):
            better = left[place] if number is None else left[place][: left[place].index(number)]
            for other in better:
                self.assertLess(most_served(self.settled(left, place, other)), most_served(rows))
            left = self.settled(left, place, number)
            self.assertEqual(most_served(left), most_served(rows))

    def settled(self, rows, place, number):
        rest = [[other for other in row if other != number] for row in rows]
        rest[place] = [] if number is None else [number]
        return rest

    def test_answers_are_made_afresh(self):
        rows = [[1, 2], [1]]
        serve_rows(rows).append(9)
        short_rows(rows).append(9)
        serve_rows(rows)[0] = 77
        self.check(rows, [2, 1])

    def test_the_same_row_handed_in_twice(self):
        row = [1, 2]
        self.assertEqual(serve_rows([row, row]), [1, 2])
        self.assertEqual(row, [1, 2])


if __name__ == "__main__":
    unittest.main()
