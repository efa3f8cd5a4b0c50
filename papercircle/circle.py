"""A circle: its houses and folders, the dealings of its weeks, and its book.

Each deed looks for every refusal ahead of its first change, so that a refused one changes nothing; and it looks for
them in the order in which they go ahead of one another, a full book last.
"""

from papercircle.bounds import DEEDS_MOST, KINDS_MOST, OLDEST, WEEKS_MOST
from papercircle.errors import BadAges, BadKinds, BookFull, LastWeek, NoFolder, UnknownKind, UnknownWeek
from papercircle.folders import Shelf, age_in
from papercircle.houses import Houses
from papercircle.names import good_name
from papercircle.prices import Prices, check_age, check_amount
from papercircle.weeks import PastWeek


def check_kinds(kinds):
    if len(kinds) < 1 or len(kinds) > KINDS_MOST:
        raise BadKinds(f"{kinds!r}")
    for kind in kinds:
        if not good_name(kind) or kinds.count(kind) > 1:
            raise BadKinds(f"{kinds!r}")


def check_week(week, last):
    if week < 1 or week > last:
        raise UnknownWeek(f"{week}")


class Circle:
    def __init__(self, kinds):
        check_kinds(kinds)
        self.kinds = list(kinds)
        self.week = 0
        self.members = Houses()
        self.shelf = Shelf(len(kinds))
        self.prices = Prices()
        # Week 1 stands at the place 0.
        self.past_weeks = []
        self.deeds = []

    def join(self, house, kind, least, most):
        self.members.check_new(house)
        self.check_wish(kind, least, most)
        self.members.check_room()
        self.check_book()
        self.write(f"join {house} {kind} {least} {most}")
        return self.members.add(house, kind, least, most)

    def wish(self, house, kind, least, most):
        member = self.members.present(house)
        self.check_wish(kind, least, most)
        self.check_book()
        self.write(f"wish {house} {kind} {least} {most}")
        member.change_wish(kind, least, most)

    def leave(self, house):
        member = self.members.present(house)
        self.check_book()
        self.write(f"leave {house}")
        member.leave()

    def lose(self, house, cents):
        member = self.members.present(house)
        check_amount(cents)
        number = member.held
        if number is None:
            raise NoFolder(f"{house}")
        self.check_book()
        self.write(f"lose {house} {cents}")
        self.shelf.lose(number)
        member.give_back()
        member.account.lose(cents)
        return number

    def price(self, age, cents):
        self.prices.check_price(self.week + 1, age, cents)
        self.check_book()
        self.write(f"price {age} {cents}")
        self.prices.tell(self.week + 1, age, cents)

    def bill(self, house):
        member = self.members.named(house)
        self.check_book()
        self.write(f"bill {house}")
        return member.account.send(self.week)

    def deal(self, counts):
        self.shelf.check_counts(counts)
        if self.week >= WEEKS_MOST:
            raise LastWeek(f"{WEEKS_MOST} weeks are dealt")
        self.check_book()
        self.write(" ".join(["deal"] + [str(many_new) for many_new in counts]))
        self.week += 1
        self.shelf.fill(self.week, counts)
        self.deal_folders()
        return self.week

    def check_wish(self, kind, least, most):
        if kind not in self.kinds:
            raise UnknownKind(f"{kind!r}")
        if least < 1 or most < least or most > OLDEST:
            raise BadAges(f"{least} to {most}")

    def check_book(self):
        if len(self.deeds) >= DEEDS_MOST:
            raise BookFull(f"{DEEDS_MOST} deeds are done")

    def write(self, row):
        self.deeds.append(row)

    def deal_folders(self):
        standing = self.members.standing()
        names = [member.name for member in standing]
        past = PastWeek(names, [self.fitting(member) for member in standing])
        self.past_weeks.append(past)
        # All folders come back first: who is dealt none now has none.
        for member in standing:
            member.give_back()
        for name, number in past.dealt():
            self.hand_out(self.members.named(name), number)

    def fitting(self, member):
        """The folders that fit a house in the week that is being dealt, the best first."""
        offered = self.shelf.offered(self.week, self.kinds.index(member.kind), member.least, member.most)
        return [number for number in offered if self.papers_in(number) not in member.papers]

    def papers_in(self, number):
        folder = self.folder(number)
        return (folder[0], folder[1])

    def hand_out(self, member, number):
        papers = self.papers_in(number)
        member.take(number, papers)
        # The price is kept with the due: a later one is nothing to a week dealt.
        member.account.charge(self.week, self.prices.at(self.week, age_in(papers[1], self.week)))

    def wished(self, house):
        member = self.members.named(house)
        return (member.kind, member.least, member.most)

    def holds(self, house):
        return self.members.named(house).held

    def read(self, house):
        return list(self.members.named(house).papers)

    def owes(self, house):
        return self.members.named(house).account.owes()

    def unsent(self, house):
        return self.members.named(house).account.unsent()

    def bills(self, house):
        return self.members.named(house).account.bills()

    def due(self, house, week):
        member = self.members.named(house)
        check_week(week, self.week)
        return member.account.due(week)

    def houses(self):
        return [member.name for member in self.members.standing()]

    def cost(self, age, week):
        check_age(age)
        # The week at hand has its prices, too.
        check_week(week, self.week + 1)
        return self.prices.at(week, age)

    def folder(self, number):
        made = self.shelf.folder(number)
        return (self.kinds[made[0]], made[1], made[2])

    def trail(self, number):
        self.shelf.check_number(number)
        answer = []
        for week, past in enumerate(self.past_weeks, start=1):
            for house, dealt_number in past.dealt():
                if dealt_number == number:
                    answer.append((week, house))
        return answer

    def past_week(self, week):
        check_week(week, self.week)
        return self.past_weeks[week - 1]

    def dealt(self, week):
        return self.past_week(week).dealt()

    def without(self, week):
        return self.past_week(week).without()

    def why(self, week):
        return self.past_week(week).why()

    def book(self):
        return list(self.deeds)
