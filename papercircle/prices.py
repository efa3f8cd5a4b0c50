"""The prices of the ages of lending, as they were told from week to week."""

from papercircle.bounds import OLDEST, PRICE_MOST
from papercircle.errors import BadAges, BadAmount, Dearer


def check_age(age):
    if age < 1 or age > OLDEST:
        raise BadAges(f"{age}")


def check_amount(cents):
    if cents < 0 or cents > PRICE_MOST:
        raise BadAmount(f"{cents}")


class Prices:
    def __init__(self):
        # For each age that has a price, the weeks from which one holds, with it, in the order of telling.
        self.told = {}

    def tell(self, week, age, cents):
        self.check_price(week, age, cents)
        self.told.setdefault(age, []).append((week, cents))

    def check_price(self, week, age, cents):
        check_age(age)
        check_amount(cents)
        if age > 1 and cents > self.at(week, age - 1):
            raise Dearer(f"{cents} is more than a newer folder costs")
        if age < OLDEST and cents < self.at(week, age + 1):
            raise Dearer(f"{cents} is less than an older folder costs")

    def at(self, week, age):
        check_age(age)
        answer = 0
        # Of two prices of one week the later one holds, so all are walked.
        for start, cents in self.told.get(age, []):
            if start <= week:
                answer = cents
        return answer
