"""Points 1 to 20 through rows at the desk: for each point what is asked and what is answered."""

import unittest

from helpers import answers_of, name_at
from papercircle.circle import Circle
from papercircle.desk import answer_row, answer_rows
from papercircle.errors import BadKinds


class DeskPointsTest(unittest.TestCase):
    def check(self, kinds, pairs):
        """Rows with their answers, one behind the other in a new circle; answers the circle."""
        circle = Circle(kinds)
        self.go_on(circle, pairs)
        return circle

    def go_on(self, circle, pairs):
        for row, answer in pairs:
            with self.subTest(row):
                self.assertEqual(answer_row(circle, row), answer)

    def test_point_1_circles_are_apart(self):
        one = self.check(["news"], [("join anna news 1 8", "1"), ("deal 1", "1")])
        self.check(["news"], [("houses", "-"), ("dealt 1", "refused: unknown week"), ("join bert news 1 8", "1")])
        self.go_on(one, [("houses", "anna"), ("holds bert", "refused: unknown house")])

    def test_point_2_names_and_numbers(self):
        self.check(["news"], [
            ("join abcdefghijkl news 1 8", "1"), ("join abcdefghijklm news 1 8", "refused: bad name"),
            ("join a news 1 8", "2"), ("join Z news 1 8", "refused: bad name"), ("price 8 0", "done"),
            ("price 8 00", "refused: bad order"), ("price 1 0000000001", "refused: bad order"),
            ("price 1 100000000", "refused: bad amount"), ("price 1 1000000000", "refused: bad order"),
        ])

    def test_point_3_kinds(self):
        self.check(["abcd"], [("join anna abcd 1 8", "1"), ("deal 1", "1"), ("folder 1", "abcd 1 kept")])
        self.check(["d", "c", "b", "a"], [("deal 1 1 1 1", "1"), ("folder 1", "d 1 kept"), ("folder 4", "a 1 kept")])
        for kinds in ([], ["a", "b", "c", "d", "e"], ["a", "b", "a"], ["A"], [""]):
            with self.assertRaises(BadKinds):
                answer_rows(kinds, [])

    def test_point_4_weeks(self):
        circle = self.check(["news"], [("deal 0", "1"), ("deal 0", "2"), ("price 1 5", "done"), ("cost 1 3", "5")])
        self.assertEqual(answers_of(circle, ["deal 0"] * 148), [str(week) for week in range(3, 151)])
        self.go_on(circle, [("deal 0", "refused: last week")])
        self.go_on(circle, [("cost 1 151", "5"), ("cost 1 152", "refused: unknown week"), ("dealt 150", "-")])

    def test_point_5_new_folders(self):
        self.check(["news", "art"], [
            ("deal 0 3", "1"), ("deal 2 0", "2"), ("folder 1", "art 1 kept"), ("folder 3", "art 1 kept"),
            ("folder 4", "news 2 kept"), ("folder 5", "news 2 kept"), ("folder 6", "refused: unknown folder"),
            ("deal 4 0", "refused: bad counts"), ("deal 0", "refused: bad counts"), ("deal", "refused: bad counts"),
            ("deal 0 0 0", "refused: bad counts"), ("folder 6", "refused: unknown folder"),
        ])

    def test_point_6_ages(self):
        circle = self.check(["news"], [("join anna news 1 1", "1"), ("join bert news 8 8", "2"), ("deal 1", "1")])
        answers_of(circle, ["deal 0"] * 8)
        self.go_on(circle, [("trail 1", "1:anna 8:bert"), ("without 9", "anna bert")])

    def test_point_7_joining(self):
        circle = self.check(["news"], [
            ("join anna news 1 8", "1"), ("join anna news 1 8", "refused: known house"), ("leave anna", "done"),
            ("join anna news 1 8", "refused: known house"), ("join bert sea 1 8", "refused: unknown kind"),
            ("join bert news 0 8", "refused: bad ages"), ("join bert news 1 9", "refused: bad ages"),
            ("join bert news 8 7", "refused: bad ages"), ("join bert news 8 8", "2"), ("join Carl news 1 8",
            "refused: bad name"),
        ])
        for place in range(3, 22):
            self.go_on(circle, [(f"join {name_at(place)} news 1 1", str(place))])
        self.go_on(circle, [("join carl news 1 8", "refused: circle full"), ("leave bert", "done")])
        self.go_on(circle, [("join carl news 1 8", "22"), ("join dora news 1 8", "refused: circle full")])

    def test_point_7_sixty_in_all(self):
        circle = Circle(["news"])
        for place in range(1, 61):
            self.go_on(circle, [(f"join {name_at(place)} news 1 1", str(place)), (f"leave {name_at(place)}", "done")])
        self.go_on(circle, [("houses", "-"), ("join anna news 1 1", "refused: circle full")])

    def test_point_8_wishes_and_leaving(self):
        self.check(["news", "art"], [
            ("join anna news 1 8", "1"), ("join bert news 1 8", "2"), ("wish anna art 2 3", "done"),
            ("wished anna", "art 2 3"), ("wish anna sea 1 8", "refused: unknown kind"),
            ("wish anna art 3 2", "refused: bad ages"), ("wished anna", "art 2 3"), ("houses", "anna bert"),
            ("wish anna news 1 8", "done"), ("price 1 30", "done"), ("deal 1 0", "1"), ("holds anna", "1"),
            ("leave anna", "done"),
            ("houses", "bert"), ("holds anna", "-"), ("wished anna", "news 1 8"), ("read anna", "news:1"),
            ("owes anna", "30"), ("bill anna", "1:30:0"), ("bills anna", "1:30:0"), ("leave anna",
            "refused: left house"),
            ("wish anna news 1 8", "refused: left house"), ("lose anna 5", "refused: left house"), ("deal 0 0", "2"),
            ("dealt 2", "bert:1"), ("without 2", "-"),
        ])

    def test_point_9_as_they_are_then(self):
        self.check(["news", "art"], [
            ("join anna news 1 8", "1"), ("join bert news 1 8", "2"), ("wish anna art 1 8", "done"), ("leave bert",
            "done"),
            ("deal 1 1", "1"), ("dealt 1", "anna:2"), ("without 1", "-"), ("join carl news 2 2", "3"), ("deal 0 0",
            "2"),
            ("dealt 2", "carl:1"), ("without 2", "anna"),
        ])

    def test_point_10_what_fits(self):
        self.check(["news", "art"], [
            ("join anna news 1 2", "1"), ("deal 2 1", "1"), ("dealt 1", "anna:1"), ("deal 0 0", "2"), ("dealt 2", "-"),
            ("join bert news 2 3", "2"), ("deal 0 0", "3"), ("dealt 3", "bert:1"), ("lose bert 0", "1"),
            ("join carl news 1 8", "3"), ("deal 0 0", "4"), ("dealt 4", "carl:2"), ("lose carl 0", "2"),
            ("join dora news 1 8", "4"), ("deal 0 0", "5"), ("dealt 5", "-"), ("why 5", "anna bert carl dora / -"),
        ])

    def test_points_11_and_12_the_dealing(self):
        self.check(["news"], [
            ("deal 1", "1"), ("join anna news 1 2", "1"), ("join bert news 1 1", "2"), ("deal 1", "2"),
            ("dealt 2", "anna:1 bert:2"), ("without 2", "-"),
        ])
        self.check(["news"], [
            ("deal 1", "1"), ("join anna news 1 2", "1"), ("join bert news 1 1", "2"), ("join carl news 2 2", "3"),
            ("deal 1", "2"), ("dealt 2", "anna:2 carl:1"), ("without 2", "bert"),
        ])
        self.check(["news"], [
            ("join zoe news 1 8", "1"), ("join anna news 1 8", "2"), ("deal 3", "1"), ("dealt 1", "zoe:1 anna:2"),
        ])

    def test_point_13_why(self):
        self.check(["news"], [
            ("join zoe news 1 8", "1"), ("join anna news 1 8", "2"), ("deal 0", "1"), ("why 1", "zoe anna / -"),
            ("deal 1", "2"), ("why 2", "zoe anna / 1"), ("why 3", "refused: unknown week"),
        ])

    def test_point_14_prices(self):
        self.check(["news"], [
            ("cost 1 1", "0"), ("price 1 1000000", "done"), ("price 1 1000001", "refused: bad amount"),
            ("price 0 1", "refused: bad ages"),
            ("price 9 1", "refused: bad ages"), ("price 2 1000000", "done"), ("price 1 999999", "refused: dearer"),
            ("price 3 0", "done"), ("price 4 1", "refused: dearer"), ("deal 0", "1"), ("price 2 7", "done"),
            ("cost 2 1", "1000000"),
            ("cost 2 2", "7"), ("cost 2 3", "refused: unknown week"), ("cost 9 1", "refused: bad ages"),
        ])

    def test_point_15_dues(self):
        self.check(["news"], [
            ("price 1 80", "done"), ("price 2 50", "done"), ("join anna news 1 8", "1"), ("join bert news 2 8", "2"),
            ("deal 1", "1"), ("price 2 40", "done"), ("deal 0", "2"), ("due anna 1", "80"), ("due anna 2", "0"),
            ("due bert 1", "0"),
            ("due bert 2", "40"), ("due bert 3", "refused: unknown week"), ("due bert 0", "refused: unknown week"),
        ])

    def test_point_16_losses(self):
        self.check(["news"], [
            ("price 1 80", "done"), ("join anna news 1 8", "1"), ("lose anna 5", "refused: no folder"), ("deal 2", "1"),
            ("lose anna 1000001", "refused: bad amount"), ("lose anna 1000000", "1"), ("holds anna", "-"),
            ("lose anna 5", "refused: no folder"), ("folder 1", "news 1 lost"), ("owes anna", "1000080"),
            ("due anna 1", "80"),
            ("trail 1", "1:anna"), ("read anna", "news:1"), ("dealt 1", "anna:1"), ("deal 0", "2"), ("dealt 2", "-"),
        ])

    def test_point_17_bills(self):
        self.check(["news"], [
            ("price 1 80", "done"), ("join anna news 1 1", "1"), ("bill anna", "0:0:0"), ("deal 1", "1"),
            ("lose anna 7", "1"),
            ("unsent anna", "87"), ("bill anna", "1:80:7"), ("unsent anna", "0"), ("owes anna", "87"),
            ("price 1 90", "done"),
            ("deal 1", "2"), ("deal 1", "3"), ("bills anna", "0:0:0 1:80:7"), ("unsent anna", "180"), ("bill anna",
            "3:180:0"),
            ("bills anna", "0:0:0 1:80:7 3:180:0"), ("owes anna", "267"), ("bill nobody", "refused: unknown house"),
        ])

    def test_point_18_past_weeks(self):
        circle = self.check(["news"], [
            ("price 1 80", "done"), ("join anna news 1 8", "1"), ("join bert news 1 8", "2"), ("deal 1", "1"),
        ])
        asked = ["dealt 1", "without 1", "why 1", "due anna 1", "due bert 1", "cost 1 1"]
        told = answers_of(circle, asked)
        self.assertEqual(told, ["anna:1", "bert", "anna bert / 1", "80", "0", "80"])
        for row in (
            "price 1 90", "lose anna 5", "wish anna news 2 2", "leave bert", "join carl news 1 8", "deal 3",
            "bill anna",
        ):
            self.assertFalse(answer_row(circle, row).startswith("refused"))
            self.assertEqual(answers_of(circle, asked), told)

    def test_point_19_a_full_book(self):
        circle = Circle(["news"])
        self.assertEqual(answers_of(circle, ["price 8 0"] * 401), ["done"] * 400 + ["refused: book full"])
        self.go_on(circle, [
            ("join anna news 1 8", "refused: book full"), ("deal 1", "refused: book full"), ("houses", "-"),
            ("cost 8 1", "0"),
            ("deal 4", "refused: bad counts"), ("join Anna news 1 8", "refused: bad name"), ("x", "refused: bad order"),
        ])

    def test_point_20_the_first_in_the_row(self):
        self.check(["news"], [
            ("join Anna sea 0 9", "refused: bad name"), ("join anna sea 0 9", "refused: unknown kind"),
            ("join anna news 0 9", "refused: bad ages"), ("lose anna 9999999", "refused: unknown house"),
            ("price 9 9999999", "refused: bad ages"), ("price 2 9999999", "refused: bad amount"), ("due anna 7",
            "refused: unknown house"),
            ("cost 9 7", "refused: bad ages"), ("join anna news 1 8", "1"), ("lose anna 9999999",
            "refused: bad amount"),
            ("join anna sea 0 9", "refused: known house"), ("leave anna", "done"), ("wish anna sea 0 9",
            "refused: left house"),
            ("lose anna 9999999", "refused: left house"),
        ])


if __name__ == "__main__":
    unittest.main()
