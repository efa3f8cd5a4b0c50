"""Points 21 to 23: rows that are orders and rows that are none, and the form of every answer."""

import unittest

from helpers import all_told, answers_of, called, circle_of, name_at, questions, row_of, small_circle, told_text
from papercircle.circle import Circle
from papercircle.desk import answer_row, answer_rows, walk_rows
from papercircle.errors import BadAges, BadKinds, BadOrder, CircleError, UnknownHouse, UnknownWeek

# Each form, with the kinds of the words behind the first one: w for any word, n for a number.
FORMS = {
    "join": "wwnn", "wish": "wwnn", "leave": "w", "price": "nn", "lose": "wn", "bill": "w", "houses": "",
    "without": "n", "wished": "w", "holds": "w", "read": "w", "owes": "w", "unsent": "w", "due": "wn", "cost": "nn",
    "bills": "w", "folder": "n", "trail": "n", "dealt": "n", "why": "n",
}
NO_NUMBERS = [
    "x", "-1", "+1", "01", "00", "1.0", "1e1", "0x1", "1_0", "1234567890", "0000000001", "one", "-", "/", "1:1", "~",
]


def good_words(form):
    return [{"w": "anna", "n": "1"}[sign] for sign in form]


class NoOrderTest(unittest.TestCase):
    def setUp(self):
        self.circle = small_circle()
        self.told = all_told(self.circle)

    def check(self, row):
        with self.subTest(row):
            self.assertEqual(answer_row(self.circle, row), "refused: bad order")
            self.assertEqual(answer_rows(["news"], [row]), ["refused: bad order"])
            with self.assertRaises(BadOrder):
                walk_rows(["news"], [row])

    def tearDown(self):
        self.assertEqual(all_told(self.circle), self.told)

    def test_no_word_at_all(self):
        for row in ("", " ", "  ", " " * 100):
            self.check(row)

    def test_another_first_word(self):
        for row in (
            "book", "week", "sell anna", "Join anna news 1 8", "JOIN anna news 1 8", "joins anna", "house", "anna", "1",
            "deals 1 1", "Deal 1 1", "deal,1", "join,anna,news,1,8", "-", "done", "refused:", "*", "w", "dea",
            "x" * 100,
            "word", "members", "write row", "kinds",
        ):
            self.check(row)

    def test_blanks_in_front_behind_and_two_at_once(self):
        for name, form in FORMS.items():
            words = [name] + good_words(form)
            row = " ".join(words)
            self.check(" " + row)
            self.check(row + " ")
            for place in range(1, len(words)):
                self.check(" ".join(words[:place]) + "  " + " ".join(words[place:]))
        for row in (" deal 1 1", "deal 1 1 ", "deal  1 1", "deal 1  1", "deal "):
            self.check(row)

    def test_an_empty_word_where_a_word_stands(self):
        for name, form in FORMS.items():
            for place in range(len(form)):
                words = good_words(form)
                words[place] = ""
                self.check(" ".join([name] + words))
        for row in ("deal  1", "deal 1 ", "deal  ", " deal", " ", "houses ", " houses"):
            self.check(row)

    def test_too_many_and_too_few_words(self):
        for name, form in FORMS.items():
            words = good_words(form)
            for few in range(len(words)):
                self.check(" ".join([name] + words[:few]))
            for more in ("1", "anna", "x", "1 1", "1 2 3 4 5 6"):
                self.check(" ".join([name] + words + [more]))

    def test_no_number_where_a_number_stands(self):
        for name, form in FORMS.items():
            for place, sign in enumerate(form):
                if sign == "n":
                    for bad in NO_NUMBERS:
                        words = good_words(form)
                        words[place] = bad
                        self.check(" ".join([name] + words))

    def test_no_number_in_a_deal(self):
        for bad in NO_NUMBERS:
            self.check("deal " + bad)
            self.check("deal 1 " + bad)
            self.check("deal " + bad + " 1")
            self.check("deal 1 1 1 1 1 " + bad)

    def test_no_row_of_another_form_is_raised_by_answer_row(self):
        for row in ("", "x", "join", "deal x", "holds nobody", "dealt 99", "price 9 9"):
            self.assertTrue(answer_row(self.circle, row).startswith("refused: "))


class AnyWordTest(unittest.TestCase):
    def test_house_and_kind_may_be_any_words(self):
        for word in ("1", "-", "Anna", "a:b", "/", "~", "!", "x" * 80, "0", "join", "deal"):
            circle = small_circle()
            with self.subTest(word):
                joined = "5" if word in ("join", "deal") else "refused: bad name"
                self.assertEqual(answer_row(circle, f"join dora {word} 1 8"), "refused: unknown kind")
                self.assertEqual(answer_row(circle, f"wish anna {word} 1 8"), "refused: unknown kind")
                for row in (f"holds {word}", f"bill {word}", f"leave {word}", f"lose {word} 1", f"due {word} 1",
                            f"wish {word} news 1 8", f"read {word}", f"bills {word}", f"wished {word}",
                            f"owes {word}", f"unsent {word}"):
                    self.assertEqual(answer_row(circle, row), "refused: unknown house")
                self.assertEqual(answer_row(circle, f"join {word} news 1 8"), joined)

    def test_a_house_may_be_called_like_an_order(self):
        rows = ["join deal join 1 8", "deal 1", "holds deal", "leave deal", "houses"]
        self.assertEqual(answer_rows(["join"], rows), ["1", "1", "1", "done", "-"])

    def test_the_greatest_number(self):
        circle = small_circle()
        self.assertEqual(answer_row(circle, "price 1 999999999"), "refused: bad amount")
        self.assertEqual(answer_row(circle, "price 999999999 1"), "refused: bad ages")
        self.assertEqual(answer_row(circle, "folder 999999999"), "refused: unknown folder")
        self.assertEqual(answer_row(circle, "dealt 999999999"), "refused: unknown week")
        self.assertEqual(answer_row(circle, "deal 999999999 0"), "refused: bad counts")


class DeedsTest(unittest.TestCase):
    def test_all_forms_of_answers(self):
        circle = Circle(["news", "art"])
        for row, answer in (
            ("join anna news 1 8", "1"), ("join bert art 2 3", "2"), ("wish bert news 1 2", "done"),
            ("price 1 80", "done"), ("price 2 50", "done"), ("bill anna", "0:0:0"), ("deal 1 0", "1"),
            ("lose anna 250", "1"), ("bill anna", "1:80:250"), ("deal 2 3", "2"), ("lose bert 0", "3"),
            ("leave bert", "done"), ("bill bert", "2:80:0"), ("deal 0 0", "3"), ("bill anna", "3:80:0"),
            ("bill anna", "3:0:0"),
        ):
            with self.subTest(row):
                self.assertEqual(answer_row(circle, row), answer)
                self.assertEqual(circle.book()[-1], row)
        self.assertEqual(len(circle.book()), 16)

    def test_a_deal_with_any_count_of_numbers(self):
        for kinds in (["a"], ["a", "b"], ["a", "b", "c"], ["a", "b", "c", "d"]):
            for many in range(12):
                row = " ".join(["deal"] + ["1"] * many)
                wanted = "1" if many == len(kinds) else "refused: bad counts"
                self.assertEqual(answer_rows(kinds, [row]), [wanted])
        self.assertEqual(answer_rows(["a"], ["deal 0", "deal 3", "deal 4"]), ["1", "2", "refused: bad counts"])
        self.assertEqual(answer_rows(["a"], ["deal" + " 1" * 49]), ["refused: bad counts"])

    def test_places_and_weeks_of_several_figures(self):
        circle = Circle(["news"])
        for place in range(1, 21):
            self.assertEqual(answer_row(circle, f"join {name_at(place)} news 1 8"), str(place))
        for week in range(1, 151):
            self.assertEqual(answer_row(circle, "deal 3"), str(week))
        self.assertEqual(answer_row(circle, "deal 3"), "refused: last week")
        self.assertEqual(answer_row(circle, f"lose {name_at(1)} 1000000"), "448")
        self.assertEqual(answer_row(circle, "folder 448"), "news 150 lost")
        self.assertEqual(answer_row(circle, f"bill {name_at(1)}"), "150:0:1000000")


class QuestionsTest(unittest.TestCase):
    def check(self, circle, pairs):
        for row, answer in pairs:
            with self.subTest(row):
                self.assertEqual(answer_row(circle, row), answer)

    def test_all_forms_of_answers(self):
        self.check(small_circle(), [
            ("houses", "anna bert carl"), ("without 1", "gone"), ("without 2", "carl"), ("wished anna", "news 1 8"),
            ("wished gone", "news 2 3"), ("holds anna", "6"), ("holds carl", "7"),
            ("read anna", "news:1 news:2 news:3"), ("read carl", "art:1 art:3"), ("owes bert", "460"),
            ("unsent anna", "170"), ("due anna 1", "80"), ("due gone 1", "0"), ("due gone 2", "50"), ("cost 1 4", "90"),
            ("cost 8 1", "0"), ("bills anna", "1:80:0"), ("bills gone", "3:50:0"), ("folder 3", "art 1 kept"),
            ("folder 5", "news 2 lost"), ("trail 1", "1:anna 2:gone"), ("trail 7", "3:carl"),
            ("dealt 2", "anna:4 bert:5 gone:1"), ("why 3", "anna bert / 6"),
        ])

    def test_where_there_is_none(self):
        self.check(Circle(["news"]), [("houses", "-")])
        circle = circle_of(["news"], [("deal", 1), ("join", "anna", "news", 1, 1), ("deal", 0), ("deal", 1)])
        self.check(circle, [
            ("dealt 1", "-"), ("without 1", "-"), ("why 1", "- / -"), ("trail 1", "-"),
            ("dealt 2", "-"), ("without 2", "anna"), ("why 2", "anna / -"), ("without 3", "-"), ("bills anna", "-"),
        ])
        circle = circle_of(["news"], [("join", "anna", "news", 1, 8)])
        self.check(circle, [("holds anna", "-"), ("read anna", "-"), ("bills anna", "-"), ("owes anna", "0")])
        circle.deal([1])
        self.check(circle, [("holds anna", "1"), ("read anna", "news:1")])
        circle.lose("anna", 0)
        self.check(circle, [("holds anna", "-"), ("read anna", "news:1")])
        circle.leave("anna")
        self.check(circle, [("holds anna", "-"), ("houses", "-"), ("read anna", "news:1")])

    def test_several_of_each(self):
        circle = circle_of(["news"], [("join", name, "news", 1, 8) for name in ("zoe", "mark", "anna", "bert")])
        self.check(circle, [("houses", "zoe mark anna bert"), ("bill zoe", "0:0:0"), ("deal 2", "1"), ("deal 1", "2")])
        self.check(circle, [
            ("dealt 1", "zoe:1 mark:2"), ("without 1", "anna bert"), ("why 1", "zoe mark anna bert / 1 2"),
            ("dealt 2", "zoe:3 anna:1 bert:2"), ("without 2", "mark"), ("bill zoe", "2:0:0"),
            ("bills zoe", "0:0:0 2:0:0"), ("trail 1", "1:zoe 2:anna"), ("read zoe", "news:1 news:2"),
        ])

    def test_as_the_calls_answer(self):
        circle = small_circle()
        for order in questions(circle.book(), circle.week):
            words = [str(part) for part in order]
            if order[0] != "book" and "" not in words and "-1" not in words:
                with self.subTest(order):
                    self.assertEqual(answer_row(circle, row_of(order)), told_text(order, called(circle, order)))


class AnswerRowsTest(unittest.TestCase):
    def test_one_text_for_each_row(self):
        self.assertEqual(answer_rows(["news"], []), [])
        rows = ["join anna news 1 8", "join anna news 1 8", "deal 1", "", "holds anna", "holds bert", "deal 1 1"]
        self.assertEqual(answer_rows(["news"], rows), [
            "1", "refused: known house", "1", "refused: bad order", "1", "refused: unknown house",
            "refused: bad counts",
        ])

    def test_what_is_refused_does_not_end_it(self):
        rows = ["nonsense"] * 450 + ["join anna news 1 8"] + ["price 8 0"] * 49
        answers = answer_rows(["news"], rows)
        self.assertEqual(answers, ["refused: bad order"] * 450 + ["1"] + ["done"] * 49)

    def test_more_rows_than_a_book_holds(self):
        answers = answer_rows(["news"], ["price 8 0"] * 405 + ["cost 8 1"])
        self.assertEqual(answers, ["done"] * 400 + ["refused: book full"] * 5 + ["0"])

    def test_bad_kinds(self):
        for kinds in ([], ["A"], ["a", "a"]):
            with self.assertRaises(BadKinds):
                answer_rows(kinds, ["houses"])

    def test_as_answer_row_in_one_circle(self):
        rows = small_circle().book() + ["houses", "why 1", "why 3", "nonsense", "read anna"]
        self.assertEqual(answer_rows(["news", "art"], rows), answers_of(Circle(["news", "art"]), rows))


class WalkRowsTest(unittest.TestCase):
    def test_all_rows_are_done(self):
        circle = walk_rows(["news", "art"], small_circle().book())
        self.assertIsInstance(circle, Circle)
        self.assertEqual(all_told(circle), all_told(small_circle()))

    def test_no_rows(self):
        circle = walk_rows(["news"], [])
        self.assertEqual((circle.week, circle.houses(), circle.book()), (0, [], []))

    def test_questions_among_them_change_nothing(self):
        rows = []
        for row in small_circle().book():
            rows += [row, "houses", "cost 1 1"]
        circle = walk_rows(["news", "art"], rows + ["holds anna", "why 1", "bills gone"])
        self.assertEqual(all_told(circle), all_told(small_circle()))

    def test_the_first_refusal_is_raised(self):
        rows = ["join anna news 1 8", "deal 1"]
        for more, refusal in (
            (["holds nobody", "nonsense"], UnknownHouse), (["nonsense", "holds nobody"], BadOrder),
            (["dealt 2", ""], UnknownWeek), (["houses", "", "dealt 2"], BadOrder),
            (["deal 1", "dealt 2", "price 9 9"], BadAges), (["cost 9 9"], BadAges), ([" deal 1"], BadOrder),
        ):
            with self.subTest(more):
                with self.assertRaises(refusal):
                    walk_rows(["news"], rows + more)

    def test_every_refusal_is_one_of_the_circles(self):
        for row in ("", "join", "join Anna news 1 8", "holds anna", "deal", "dealt 1", "folder 1", "price 0 0"):
            with self.assertRaises(CircleError):
                walk_rows(["news"], [row])

    def test_bad_kinds(self):
        with self.assertRaises(BadKinds):
            walk_rows([], [])
        with self.assertRaises(BadKinds):
            walk_rows(["a", "a"], ["nonsense"])


if __name__ == "__main__":
    unittest.main()
