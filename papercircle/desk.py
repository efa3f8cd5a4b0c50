"""The desk: rows of words are taken as orders to a circle, and answered with texts."""

from papercircle.circle import Circle
from papercircle.errors import BadOrder, CircleError
from papercircle.names import number_of


def spaced(parts):
    if len(parts) == 0:
        return "-"
    return " ".join([str(part) for part in parts])


def coloned(parts):
    return ":".join([str(part) for part in parts])


def coloned_each(tuples):
    return spaced([coloned(parts) for parts in tuples])


def do_join(circle, parts):
    return str(circle.join(parts[0], parts[1], parts[2], parts[3]))


def do_wish(circle, parts):
    circle.wish(parts[0], parts[1], parts[2], parts[3])
    return "done"


def do_leave(circle, parts):
    circle.leave(parts[0])
    return "done"


def do_price(circle, parts):
    circle.price(parts[0], parts[1])
    return "done"


def do_lose(circle, parts):
    return str(circle.lose(parts[0], parts[1]))


def do_bill(circle, parts):
    return coloned(circle.bill(parts[0]))


def do_deal(circle, parts):
    return str(circle.deal(parts))


def tell_houses(circle, parts):
    return spaced(circle.houses())


def tell_without(circle, parts):
    return spaced(circle.without(parts[0]))


def tell_wished(circle, parts):
    return spaced(circle.wished(parts[0]))


def tell_holds(circle, parts):
    number = circle.holds(parts[0])
    return "-" if number is None else str(number)


def tell_read(circle, parts):
    return coloned_each(circle.read(parts[0]))


def tell_owes(circle, parts):
    return str(circle.owes(parts[0]))


def tell_unsent(circle, parts):
    return str(circle.unsent(parts[0]))


def tell_due(circle, parts):
    return str(circle.due(parts[0], parts[1]))


def tell_cost(circle, parts):
    return str(circle.cost(parts[0], parts[1]))


def tell_bills(circle, parts):
    return coloned_each(circle.bills(parts[0]))


def tell_folder(circle, parts):
    folder = circle.folder(parts[0])
    return spaced([folder[0], folder[1], "lost" if folder[2] else "kept"])


def tell_trail(circle, parts):
    return coloned_each(circle.trail(parts[0]))


def tell_dealt(circle, parts):
    return coloned_each(circle.dealt(parts[0]))


def tell_why(circle, parts):
    why = circle.why(parts[0])
    return spaced([spaced(why[0]), "/", spaced(why[1])])


# By its first word each order's form and who answers it. The form has a sign for each word that follows: w for any
# word, n for a number; * for numbers as many as there are.
ORDERS = {
    "join": ("wwnn", do_join),
    "wish": ("wwnn", do_wish),
    "leave": ("w", do_leave),
    "price": ("nn", do_price),
    "lose": ("wn", do_lose),
    "bill": ("w", do_bill),
    "deal": ("*", do_deal),
    "houses": ("", tell_houses),
    "without": ("n", tell_without),
    "wished": ("w", tell_wished),
    "holds": ("w", tell_holds),
    "read": ("w", tell_read),
    "owes": ("w", tell_owes),
    "unsent": ("w", tell_unsent),
    "due": ("wn", tell_due),
    "cost": ("nn", tell_cost),
    "bills": ("w", tell_bills),
    "folder": ("n", tell_folder),
    "trail": ("n", tell_trail),
    "dealt": ("n", tell_dealt),
    "why": ("n", tell_why),
}


def part_of(sign, word):
    if word == "":
        raise BadOrder("an empty word")
    if sign == "w":
        return word
    number = number_of(word)
    if number is None:
        raise BadOrder(f"no number: {word!r}")
    return number


def parts_of(form, words):
    if form == "*":
        return [part_of("n", word) for word in words]
    if len(words) != len(form):
        raise BadOrder("too many or too few words")
    return [part_of(sign, word) for sign, word in zip(form, words)]


def do_row(circle, row):
    """The text that answers a row; a refusal is raised."""
    words = row.split(" ")
    if words[0] not in ORDERS:
        raise BadOrder(f"no order: {row!r}")
    order = ORDERS[words[0]]
    parts = parts_of(order[0], words[1:])
    answer = order[1]
    return answer(circle, parts)


def answer_row(circle, row):
    try:
        return do_row(circle, row)
    except CircleError as refusal:
        word = refusal.word()
        return f"refused: {word}"


def answer_rows(kinds, rows):
    circle = Circle(kinds)
    return [answer_row(circle, row) for row in rows]


def walk_rows(kinds, rows):
    circle = Circle(kinds)
    for row in rows:
        do_row(circle, row)
    return circle
