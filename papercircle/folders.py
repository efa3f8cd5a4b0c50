"""The folders: how old they are in a week, and the shelf that holds all that were ever made."""

from papercircle.bounds import NEW_MOST
from papercircle.errors import BadCounts, UnknownFolder


def age_in(made, week):
    return week - made + 1


class Shelf:
    def __init__(self, many):
        self.many = many
        # The kind's place and the week of each folder; number 1 stands at the place 0.
        self.made = []
        # The numbers by week and kind, so that nobody walks all folders of all weeks to find those of one.
        self.numbers = {}
        self.gone = {}

    def fill(self, week, counts):
        self.check_counts(counts)
        answer = []
        for kind, many_new in enumerate(counts):
            answer.extend(self.make(week, kind, many_new))
        return answer

    def check_counts(self, counts):
        if len(counts) != self.many:
            raise BadCounts(f"{counts!r}")
        for many_new in counts:
            if many_new < 0 or many_new > NEW_MOST:
                raise BadCounts(f"{counts!r}")

    def make(self, week, kind, many_new):
        first = len(self.made) + 1
        fresh = list(range(first, first + many_new))
        for number in fresh:
            self.made.append((kind, week))
        self.numbers[(week, kind)] = fresh
        return fresh

    def folder(self, number):
        self.check_number(number)
        made = self.made[number - 1]
        return (made[0], made[1], number in self.gone)

    def lose(self, number):
        self.check_number(number)
        self.gone[number] = True

    def check_number(self, number):
        if number < 1 or number > len(self.made):
            raise UnknownFolder(f"{number}")

    def offered(self, week, kind, least, most):
        answer = []
        for age in range(least, most + 1):
            answer.extend(self.kept(week + 1 - age, kind))
        return answer

    def kept(self, week, kind):
        """The folders made in a week, of a kind, that are not lost."""
        return [number for number in self.numbers.get((week, kind), []) if number not in self.gone]
