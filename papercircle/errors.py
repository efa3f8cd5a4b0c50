"""The refusals, in the order in which they go ahead of one another, each with its word."""


class CircleError(ValueError):
    pass


class BadKinds(CircleError):
    def word(self):
        return "bad kinds"


class BadOrder(CircleError):
    def word(self):
        return "bad order"


class BadName(CircleError):
    def word(self):
        return "bad name"


class UnknownHouse(CircleError):
    def word(self):
        return "unknown house"


class KnownHouse(CircleError):
    def word(self):
        return "known house"


class LeftHouse(CircleError):
    def word(self):
        return "left house"


class UnknownKind(CircleError):
    def word(self):
        return "unknown kind"


class BadAges(CircleError):
    def word(self):
        return "bad ages"


class BadAmount(CircleError):
    def word(self):
        return "bad amount"


class Dearer(CircleError):
    def word(self):
        return "dearer"


class BadCounts(CircleError):
    def word(self):
        return "bad counts"


class UnknownWeek(CircleError):
    def word(self):
        return "unknown week"


class UnknownFolder(CircleError):
    def word(self):
        return "unknown folder"


class NoFolder(CircleError):
    def word(self):
        return "no folder"


class CircleFull(CircleError):
    def word(self):
        return "circle full"


class LastWeek(CircleError):
    def word(self):
        return "last week"


class BookFull(CircleError):
    def word(self):
        return "book full"
