"""Good names, and numbers that are written as texts."""

from papercircle.bounds import FIGURES_MOST, NAME_MOST

LETTERS = "abcdefghijklmnopqrstuvwxyz"
FIGURES = "0123456789"


def made_of(text, signs, most):
    if len(text) < 1 or len(text) > most:
        return False
    for sign in text:
        if sign not in signs:
            return False
    return True


def good_name(text):
    return made_of(text, LETTERS, NAME_MOST)


def number_of(text):
    # The signs are looked at ahead of int, because int also takes "+1", " 1" and "1_0".
    if not made_of(text, FIGURES, FIGURES_MOST):
        return None
    if len(text) > 1 and text[0] == "0":
        return None
    return int(text)
