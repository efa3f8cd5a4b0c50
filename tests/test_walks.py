"""Points 3 to 23 together: long walks of deeds and questions, held against the model of the points."""

import random
import unittest

from helpers import DEEDS, GREAT, MOST, OF_FOLDERS, OF_HOUSES, OF_WEEKS, Model, called, name_at, questions, row_of
from helpers import told_text
from papercircle.circle import Circle
from papercircle.desk import answer_row, walk_rows
from papercircle.names import number_of

KINDS = ["news", "art", "sea", "home"]


class Walk:
    """Draws orders, most of them good ones, by a written seed."""

    def __init__(self, seed, kinds, houses, leaving):
        self.source = random.Random(seed)
        self.kinds = kinds
        self.houses = houses
        # How likely it is that a house leaves where else a bill is sent to it.
        self.leaving = leaving

    def house(self):
        if self.source.random() < 0.02:
            return self.source.choice(["", "Anna", "a b", "anna1", "abcdefghijklm", "nobody"])
        return self.source.choice(self.houses)

    def kind(self):
        if self.source.random() < 0.02:
            return self.source.choice(["", "New", "paper"])
        return self.source.choice(self.kinds)

    def ages(self):
        if self.source.random() < 0.04:
            return self.source.choice([(0, 3), (1, 9), (5, 4), (9, 9), (-1, 2), (0, 0), (GREAT, GREAT)])
        least = self.source.choice([1, 1, 1, self.source.randint(1, 8)])
        return least, self.source.randint(least, 8)

    def age(self):
        return self.source.choice([0, 9, 1, 1, 2, 3, 4, 5, 6, 7, 8])

    def cents(self):
        if self.source.random() < 0.1:
            return self.source.choice([-1, MOST + 1, GREAT, -GREAT, MOST])
        return self.source.choice([0, 5, 10, 20, self.source.randint(0, 200)])

    def counts(self):
        counts = [self.source.choice([0, 0, 1, 1, 2, 3]) for kind in self.kinds]
        if self.source.random() < 0.05:
            return self.source.choice([[], counts + [0], counts[:-1], [4] + counts[1:], [-1] + counts[1:]])
        return counts

    def deed(self):
        name = self.source.choice("join join wish leave lose price price bill deal deal deal deal".split())
        if name in ("join", "wish"):
            return (name, self.house(), self.kind()) + self.ages()
        if name in ("leave", "bill"):
            return ("leave" if self.source.random() < self.leaving else "bill", self.house())
        if name == "lose":
            return (name, self.house(), self.cents())
        if name == "price":
            return (name, self.age(), self.cents())
        return ("deal",) + tuple(self.counts())

    def question(self):
        number = self.source.choice([-1, 0, GREAT, self.source.randint(1, 40), self.source.randint(1, 40)])
        name = self.source.choice(OF_HOUSES + OF_WEEKS + OF_FOLDERS + ["due", "cost", "houses"])
        if name in OF_HOUSES:
            return (name, self.house())
        if name == "due":
            return (name, self.house(), number)
        if name == "cost":
            return (name, self.age(), number)
        return (name,) if name == "houses" else (name, number)

    def order(self):
        return self.deed() if self.source.random() < 0.8 else self.question()


def can_be_said(order):
    """Whether an order's words make a row of the right form."""
    words = [str(part) for part in order]
    if any(word == "" or " " in word for word in words):
        return False
    return all(isinstance(part, str) or number_of(str(part)) is not None for part in order)


class WalksTest(unittest.TestCase):
    def check_answer(self, model, order, answer):
        wanted = model.answer(order)
        if order[0] == "why" and not isinstance(answer, str):
            self.assertIsNone(wanted)
            self.assertTrue(model.why_holds(order[1], answer), answer)
        else:
            self.assertEqual(answer, wanted)
            self.assertIs(type(answer), type(wanted))

    def check_desk(self, circle, order, answer):
        text = answer_row(circle, row_of(order))
        if not can_be_said(order):
            self.assertEqual(text, "refused: bad order")
            # So that both circles stay alike, what can't be said is done by a call.
            self.assertEqual(called(circle, order), answer)
        else:
            self.assertEqual(text, told_text(order, answer))

    def check_all_told(self, model, circle):
        for order in questions(model.rows, len(model.deals)):
            with self.subTest(order=order):
                self.check_answer(model, order, called(circle, order))

    def walk(self, seed, kinds, many_houses, steps, leaving=0.15):
        walk = Walk(seed, kinds, [name_at(place) for place in range(many_houses)], leaving)
        model, circle, at_desk = Model(kinds), Circle(kinds), Circle(kinds)
        for step in range(steps):
            order = walk.order()
            with self.subTest(seed=seed, step=step, order=order):
                answer = called(circle, order)
                self.check_answer(model, order, answer)
                self.check_desk(at_desk, order, answer)
                self.assertEqual(circle.week, len(model.deals))
        self.check_all_told(model, circle)
        self.check_all_told(model, at_desk)
        self.check_all_told(model, walk_rows(kinds, circle.book()))
        return model

    def test_few_houses(self):
        for seed in range(25):
            self.walk(seed, KINDS[:1 + seed % 4], 6, 120)

    def test_more_houses_than_folders(self):
        for seed in range(100, 106):
            self.walk(seed, KINDS[:1 + seed % 2], 30, 250)

    def test_up_to_a_full_book(self):
        for seed in range(200, 203):
            model = self.walk(seed, KINDS[:1 + seed % 3], 70, 2800)
            self.assertEqual(len(model.rows), 400)
            # The walk has to be a hard one: all weeks are dealt, with houses that stayed without and with losses.
            self.assertEqual(len(model.deals), 150)
            self.assertGreater(sum(len(model.without(week)) for week in range(1, 151)), 100)
            self.assertEqual({row.split(" ")[0] for row in model.rows}, set(DEEDS))
            self.assertGreater(len(model.lost), 3)

    def test_up_to_all_that_may_join(self):
        for seed in range(301, 304):
            model = self.walk(seed, KINDS[:1 + seed % 3], 70, 1800, leaving=0.95)
            self.assertEqual(len(model.names), 60)


if __name__ == "__main__":
    unittest.main()
