"""The houses that joined a circle: their wishes, what they have and have read, and what they owe."""

from papercircle.accounts import Account
from papercircle.bounds import HOUSES_MOST, JOINED_MOST
from papercircle.errors import BadName, CircleFull, KnownHouse, LeftHouse, UnknownHouse
from papercircle.names import good_name


class House:
    def __init__(self, name, kind, least, most):
        self.name = name
        self.kind = kind
        self.least = least
        self.most = most
        self.stands = True
        # The number of the folder that it has, None where it has none.
        self.held = None
        # The kind and the week of all papers that it was dealt, as they came.
        self.papers = []
        self.account = Account()

    def change_wish(self, kind, least, most):
        self.kind = kind
        self.least = least
        self.most = most

    def take(self, number, papers):
        self.held = number
        self.papers.append(papers)

    def give_back(self):
        self.held = None

    def leave(self):
        self.give_back()
        self.stands = False


class Houses:
    def __init__(self):
        # Those that left stay here: they are still told of, and their names are not given again.
        self.joined = {}

    def check_new(self, name):
        if not good_name(name):
            raise BadName(f"{name!r}")
        if name in self.joined:
            raise KnownHouse(f"{name}")

    def check_room(self):
        if len(self.standing()) >= HOUSES_MOST:
            raise CircleFull(f"{HOUSES_MOST} houses stand in the circle")
        if len(self.joined) >= JOINED_MOST:
            raise CircleFull(f"{JOINED_MOST} houses have joined")

    def add(self, name, kind, least, most):
        """Let a house join; answers its place."""
        self.joined[name] = House(name, kind, least, most)
        return len(self.joined)

    def named(self, name):
        if name not in self.joined:
            raise UnknownHouse(f"{name!r}")
        return self.joined[name]

    def present(self, name):
        """The house of that name, which has to stand in the circle."""
        house = self.named(name)
        if not house.stands:
            raise LeftHouse(f"{name}")
        return house

    def standing(self):
        return [house for house in self.joined.values() if house.stands]
