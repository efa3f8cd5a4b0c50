"""What several test files need: all that a circle tells, ready circles, and the document told again as a model."""

from papercircle import errors
from papercircle.circle import Circle
from papercircle.desk import answer_row

# Point 20: each refusal's class and word, in the order in which they go ahead of one another.
REFUSALS = [
    ("BadKinds", "bad kinds"),
    ("BadOrder", "bad order"),
    ("BadName", "bad name"),
    ("UnknownHouse", "unknown house"),
    ("KnownHouse", "known house"),
    ("LeftHouse", "left house"),
    ("UnknownKind", "unknown kind"),
    ("BadAges", "bad ages"),
    ("BadAmount", "bad amount"),
    ("Dearer", "dearer"),
    ("BadCounts", "bad counts"),
    ("UnknownWeek", "unknown week"),
    ("UnknownFolder", "unknown folder"),
    ("NoFolder", "no folder"),
    ("CircleFull", "circle full"),
    ("LastWeek", "last week"),
    ("BookFull", "book full"),
]
NAMES = [name for name, word in REFUSALS]
WORDS = dict(REFUSALS)

DEEDS = "join wish leave lose price bill deal".split()
OF_HOUSES = "wished holds read owes unsent bills".split()
OF_WEEKS = "dealt without why".split()
OF_FOLDERS = "folder trail".split()

MOST = 1000000
GREAT = 10 ** 12


def called(circle, order):
    """What a call of the circle answers, or the refusal's class name with a sign ahead."""
    try:
        if order[0] == "deal":
            return circle.deal(list(order[1:]))
        return getattr(circle, order[0])(*order[1:])
    except errors.CircleError as refusal:
        return "!" + type(refusal).__name__


def row_of(order):
    return " ".join(str(part) for part in order)


def joined_names(book):
    return [row.split(" ")[1] for row in book if row.startswith("join ")]


def questions(book, week):
    """Every question that can be asked, with some that are refused."""
    asked = [("houses",), ("book",)]
    for house in joined_names(book) + ["nobody", "Bad", ""]:
        asked += [(name, house) for name in OF_HOUSES]
        asked += [("due", house, past) for past in range(-1, week + 3)]
    for past in range(-1, week + 3):
        asked += [(name, past) for name in OF_WEEKS]
        asked += [("cost", age, past) for age in range(0, 10)]
    folders = sum(int(part) for row in book if row.startswith("deal ") for part in row.split(" ")[1:])
    for number in range(-1, folders + 3):
        asked += [(name, number) for name in OF_FOLDERS]
    return asked


def all_told(circle):
    told = {order: called(circle, order) for order in questions(circle.book(), circle.week)}
    told["week"] = circle.week
    return told


def all_but_why(circle):
    return {order: answer for order, answer in all_told(circle).items() if order[0] != "why"}


def name_at(place):
    return "h" + "abcdefghijklmnopqrstuvwxyz"[place // 26] + "abcdefghijklmnopqrstuvwxyz"[place % 26]


def circle_of(kinds, orders):
    """A circle in which all these deeds were done."""
    circle = Circle(list(kinds))
    for order in orders:
        answer = called(circle, order)
        assert not str(answer).startswith("!"), (order, answer)
    return circle


def small_circle():
    """Three weeks, three houses that stand, one that left, a loss, two bills and prices."""
    return circle_of(["news", "art"], [
        ("price", 1, 80), ("price", 2, 50), ("price", 3, 20),
        ("join", "anna", "news", 1, 8), ("join", "bert", "news", 1, 2), ("join", "carl", "art", 1, 8),
        ("join", "gone", "news", 2, 3),
        ("deal", 2, 1), ("bill", "anna"), ("deal", 2, 0), ("lose", "bert", 300), ("leave", "gone"),
        ("price", 1, 90), ("deal", 1, 1), ("bill", "gone"),
    ])


def crowded_circle():
    """20 houses that stand, `left` that left, and one week dealt in which `haa` alone got a folder."""
    circle = circle_of(["news", "art"], [("join", "left", "news", 1, 1), ("leave", "left"), ("price", 1, 50)])
    for place in range(20):
        circle.join(name_at(place), "news", 1, 8)
    circle.deal([1, 0])
    return circle


def fill_book(circle):
    # The age 8 has no older one, and 0 is never more than the age 7 costs, so this deed can always be done.
    while len(circle.book()) < 400:
        circle.price(8, 0)
    return circle


def answers_of(circle, rows):
    return [answer_row(circle, row) for row in rows]


class Refused(Exception):
    pass


class Model:
    """The points told again, each as plainly as can be, with no care for speed."""

    def __init__(self, kinds):
        self.kinds = list(kinds)
        self.rows = []
        self.names = []
        self.left = []
        self.wishes = {}
        self.folders = []
        self.lost = []
        # For each week dealt who got which number (None for none) and which numbers fitted whom.
        self.deals = []
        self.fits = []
        self.told = []
        self.losses = {}
        self.sent = {}

    # Point 20: all refusals that are due, of which the first one counts.
    def answer(self, order):
        due = getattr(self, "due_" + order[0])(*order[1:])
        if order[0] in DEEDS and len(self.rows) >= 400:
            due.append("BookFull")
        if due:
            return "!" + min(due, key=NAMES.index)
        if order[0] in DEEDS:
            self.rows.append(row_of(order))
        return getattr(self, order[0])(*order[1:])

    def standing(self):
        return [name for name in self.names if name not in self.left]

    def unknown(self, house):
        return ["UnknownHouse"] if house not in self.names else []

    def absent(self, house):
        return self.unknown(house) + (["LeftHouse"] if house in self.left else [])

    def bad_wish(self, kind, least, most):
        due = [] if kind in self.kinds else ["UnknownKind"]
        return due if 1 <= least <= most <= 8 else due + ["BadAges"]

    def bad_amount(self, cents):
        return [] if 0 <= cents <= MOST else ["BadAmount"]

    def bad_age(self, age):
        return [] if 1 <= age <= 8 else ["BadAges"]

    def bad_week(self, week, last):
        return [] if 1 <= week <= last else ["UnknownWeek"]

    def bad_number(self, number):
        return [] if 1 <= number <= len(self.folders) else ["UnknownFolder"]

    def due_join(self, house, kind, least, most):
        due = self.bad_wish(kind, least, most)
        if not (1 <= len(house) <= 12 and all("a" <= sign <= "z" for sign in house)):
            due.append("BadName")
        if house in self.names:
            due.append("KnownHouse")
        if len(self.standing()) >= 20 or len(self.names) >= 60:
            due.append("CircleFull")
        return due

    def join(self, house, kind, least, most):
        self.names.append(house)
        self.wishes[house] = (kind, least, most)
        self.losses[house] = []
        self.sent[house] = []
        return len(self.names)

    def due_wish(self, house, kind, least, most):
        return self.absent(house) + self.bad_wish(kind, least, most)

    def wish(self, house, kind, least, most):
        self.wishes[house] = (kind, least, most)

    def due_leave(self, house):
        return self.absent(house)

    def leave(self, house):
        self.left.append(house)

    def due_lose(self, house, cents):
        due = self.absent(house) + self.bad_amount(cents)
        return due if self.folder_of(house) is not None else due + ["NoFolder"]

    def lose(self, house, cents):
        number = self.folder_of(house)
        self.lost.append(number)
        self.losses[house].append(cents)
        return number

    def due_price(self, age, cents):
        due = self.bad_age(age) + self.bad_amount(cents)
        at_hand = len(self.deals) + 1
        if not self.bad_age(age):
            if age > 1 and cents > self.cost(age - 1, at_hand) or age < 8 and cents < self.cost(age + 1, at_hand):
                due.append("Dearer")
        return due

    def price(self, age, cents):
        self.told.append((len(self.deals) + 1, age, cents))

    def due_bill(self, house):
        return self.unknown(house)

    def bill(self, house):
        self.sent[house].append((len(self.deals), len(self.losses[house])))
        return self.bills(house)[-1]

    def due_deal(self, *counts):
        due = [] if len(counts) == len(self.kinds) and all(0 <= many <= 3 for many in counts) else ["BadCounts"]
        return due if len(self.deals) < 150 else due + ["LastWeek"]

    def deal(self, *counts):
        week = len(self.deals) + 1
        for kind, many in zip(self.kinds, counts):
            self.folders += [(kind, week)] * many
        fits = {house: self.fitting(house, week) for house in self.standing()}
        self.fits.append(fits)
        self.deals.append(dict(zip(fits, best_dealing(list(fits.values())))))
        return week

    def fitting(self, house, week):
        kind, least, most = self.wishes[house]
        fit = []
        for number, papers in enumerate(self.folders, start=1):
            age = week - papers[1] + 1
            if number not in self.lost and papers[0] == kind and least <= age <= most:
                if papers not in self.read(house):
                    fit.append((age, number))
        return [number for age, number in sorted(fit)]

    def folder_of(self, house):
        if house not in self.standing() or not self.deals:
            return None
        number = self.deals[-1].get(house)
        return None if number in self.lost else number

    def due_wished(self, house):
        return self.unknown(house)

    due_holds = due_read = due_owes = due_unsent = due_bills = due_wished

    def wished(self, house):
        return self.wishes[house]

    def holds(self, house):
        return self.folder_of(house)

    def read(self, house):
        return [self.folders[week[house] - 1] for week in self.deals if week.get(house) is not None]

    def owes(self, house):
        return sum(self.dues(house)) + sum(self.losses[house])

    def unsent(self, house):
        return self.owes(house) - sum(dues + losses for week, dues, losses in self.bills(house))

    def bills(self, house):
        told = []
        week_before, losses_before = 0, 0
        for week, losses in self.sent[house]:
            told.append((week, sum(self.dues(house)[week_before:week]), sum(self.losses[house][losses_before:losses])))
            week_before, losses_before = week, losses
        return told

    def dues(self, house):
        return [self.due(house, week) for week in range(1, len(self.deals) + 1)]

    def due_due(self, house, week):
        return self.unknown(house) + self.bad_week(week, len(self.deals))

    def due(self, house, week):
        number = self.deals[week - 1].get(house)
        return 0 if number is None else self.cost(week - self.folders[number - 1][1] + 1, week)

    def due_houses(self):
        return []

    def houses(self):
        return self.standing()

    def due_cost(self, age, week):
        return self.bad_age(age) + self.bad_week(week, len(self.deals) + 1)

    def cost(self, age, week):
        return ([0] + [cents for start, told_age, cents in self.told if told_age == age and start <= week])[-1]

    def due_folder(self, number):
        return self.bad_number(number)

    due_trail = due_folder

    def folder(self, number):
        return self.folders[number - 1] + (number in self.lost,)

    def trail(self, number):
        return [(week + 1, house) for week, deal in enumerate(self.deals) for house in deal if deal[house] == number]

    def due_dealt(self, week):
        return self.bad_week(week, len(self.deals))

    due_without = due_why = due_dealt

    def dealt(self, week):
        return [(house, number) for house, number in self.deals[week - 1].items() if number is not None]

    def without(self, week):
        return [house for house, number in self.deals[week - 1].items() if number is None]

    def why(self, week):
        # Which set is told is not promised: see why_holds.
        return None

    def why_holds(self, week, why):
        """Point 13 for what a circle told of a week."""
        houses, numbers = why
        fits = self.fits[week - 1]
        wanted = {number for house in houses for number in fits[house]}
        in_order = [house for house in fits if house in houses] == houses
        surplus = len(houses) - len(numbers)
        return in_order and sorted(wanted) == numbers and surplus == len(self.without(week))

    def due_book(self):
        return []

    def book(self):
        return list(self.rows)


def most_rows(rows):
    """How many rows can be served, by the plainest augmenting."""
    taken = {}

    def serve(place, tried):
        for number in rows[place]:
            if number not in tried:
                tried.add(number)
                if number not in taken or serve(taken[number], tried):
                    taken[number] = place
                    return True
        return False

    return sum(serve(place, set()) for place in range(len(rows)))


def best_dealing(rows):
    """Points 11 and 12, row by row: the first choice with which as many as possible are still served."""
    most = most_rows(rows)
    rows = [list(row) for row in rows]
    answer = []
    for place in range(len(rows)):
        for number in rows[place] + [None]:
            tried = [[other for other in row if other != number] for row in rows]
            tried[place] = [] if number is None else [number]
            if most_rows(tried) == most:
                break
        answer.append(number)
        rows = tried
    return answer


def told_text(order, answer):
    """Points 21 to 23: the text in which the desk tells what a call answered."""
    def words(parts):
        return " ".join(str(part) for part in parts) or "-"

    def tuples(parts):
        return words(":".join(str(part) for part in each) for each in parts)

    if isinstance(answer, str) and answer.startswith("!"):
        return "refused: " + WORDS[answer[1:]]
    if order[0] in ("wish", "leave", "price"):
        return "done"
    if order[0] == "bill":
        return tuples([answer])
    if order[0] in ("read", "bills", "trail", "dealt"):
        return tuples(answer)
    if order[0] in ("houses", "without", "wished"):
        return words(answer)
    if order[0] == "folder":
        return words([answer[0], answer[1], "lost" if answer[2] else "kept"])
    if order[0] == "why":
        return words(answer[0]) + " / " + words(answer[1])
    return "-" if answer is None else str(answer)
