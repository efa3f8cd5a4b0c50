"""Point 2: good names, and numbers that are written as texts."""

import unittest

from papercircle.names import good_name, number_of

SMALL = "abcdefghijklmnopqrstuvwxyz"
FIGURES = "0123456789"
ALL_SIGNS = [chr(code) for code in range(ord(" "), ord("~") + 1)]


def with_sign(text, sign):
    # The text with one of its signs replaced: the first, a middle and the last one.
    places = sorted({0, len(text) // 2, len(text) - 1})
    return [text[:place] + sign + text[place + 1:] for place in places]


def with_sign_more(text, sign):
    # The text with one sign more: ahead of it, within it and behind it.
    middle = len(text) // 2
    return [sign + text, text[:middle] + sign + text[middle:], text + sign]


class GoodNameTest(unittest.TestCase):
    def check(self, text, wanted):
        with self.subTest(text):
            self.assertIs(good_name(text), wanted)

    def test_each_small_letter_alone(self):
        for letter in SMALL:
            self.check(letter, True)

    def test_each_small_letter_at_each_place(self):
        for letter in SMALL:
            for text in with_sign("papercircles", letter):
                self.check(text, True)

    def test_each_length_from_one_to_twelve(self):
        for length in range(1, 13):
            self.check(SMALL[:length], True)
            self.check(SMALL[-length:], True)
            self.check("z" * length, True)

    def test_empty_text(self):
        self.check("", False)

    def test_too_long(self):
        for length in (13, 14, 24, 25, 26, 40, 99, 100):
            self.check((SMALL * 4)[:length], False)
            self.check("a" * length, False)

    def test_one_other_sign_in_a_good_name(self):
        for sign in ALL_SIGNS:
            if sign not in SMALL:
                for good in ("m", "ab", "house", "papercircles"):
                    for text in with_sign(good, sign):
                        self.check(text, False)

    def test_one_other_sign_more(self):
        for sign in ALL_SIGNS:
            if sign not in SMALL:
                for text in with_sign_more("house", sign):
                    self.check(text, False)

    def test_signs_right_beside_the_letters(self):
        self.assertEqual((ord("`"), ord("{")), (ord("a") - 1, ord("z") + 1))
        for text in ("`", "{", "`bc", "ab{", "a`c", "a{c"):
            self.check(text, False)

    def test_only_other_signs(self):
        for text in ("ABC", "123", "   ", "a b", "a-b", "a/b", "a_b", "Abc", "abC", "abc1"):
            self.check(text, False)


class NumberOfTest(unittest.TestCase):
    def check(self, text, wanted):
        with self.subTest(text):
            number = number_of(text)
            self.assertEqual(number, wanted)
            self.assertIs(type(number), type(wanted))

    def test_zero_is_a_number(self):
        self.check("0", 0)
        self.assertIsNotNone(number_of("0"))

    def test_each_figure_alone(self):
        for value in range(10):
            self.check(str(value), value)

    def test_both_ends_of_each_length(self):
        for length in range(2, 10):
            self.check("1" + "0" * (length - 1), 10 ** (length - 1))
            self.check("9" * length, 10 ** length - 1)

    def test_nine_figures(self):
        self.check("100000000", 100000000)
        self.check("999999999", 999999999)
        self.check("123456789", 123456789)
        self.check("987654321", 987654321)

    def test_each_figure_at_each_place(self):
        for figure in FIGURES:
            for text in with_sign("71828", figure)[1:]:
                self.check(text, int(text))

    def test_all_numbers_up_to_two_thousand(self):
        for value in range(2001):
            self.check(str(value), value)

    def test_empty_text(self):
        self.check("", None)

    def test_too_many_figures(self):
        for length in (10, 11, 18, 40, 99, 100):
            self.check("1" * length, None)
            self.check("9" * length, None)
            self.check("1" + "0" * (length - 1), None)
            self.check("0" * length, None)
            self.check("0" * (length - 1) + "1", None)

    def test_a_zero_ahead(self):
        for text in ("00", "01", "007", "000", "010", "000000000", "012345678"):
            self.check(text, None)

    def test_one_other_sign_in_a_number(self):
        for sign in ALL_SIGNS:
            if sign not in FIGURES:
                for good in ("7", "12", "345", "123456789"):
                    for text in with_sign(good, sign):
                        self.check(text, None)

    def test_one_other_sign_more(self):
        for sign in ALL_SIGNS:
            if sign not in FIGURES:
                for good in ("0", "7", "12", "345"):
                    for text in with_sign_more(good, sign):
                        self.check(text, None)

    def test_what_python_would_take_for_a_number(self):
        for text in ("+1", "-1", "-0", "+0", " 1", "1 ", "1_0", "1.0", "1e3", "0x1", "0b1"):
            self.check(text, None)


if __name__ == "__main__":
    unittest.main()
