"""Who is dealt which number: as many rows as possible are served, and the rows ahead come first.

In all of this `holders` tells for each number that is dealt the place of the row that holds it.
"""


def find_number(rows, place, holders, seen):
    """Serve a row more, where those that hold a number may move on to another one; tells whether that could be.

    The numbers in `seen` are left as they are.
    """
    for number in rows[place]:
        if number not in seen:
            seen[number] = True
            if number not in holders or find_number(rows, holders[number], holders, seen):
                holders[number] = place
                return True
    return False


def serve_more(rows, holders, settled):
    """The holders when as many rows as possible are served besides those that hold a number.

    Who holds a number stays served, and the settled numbers stay where they are.
    """
    answer = dict(holders)
    for place in unserved(rows, holders):
        find_number(rows, place, answer, dict(settled))
    return answer


def unserved(rows, holders):
    served = list(holders.values())
    return [place for place in range(len(rows)) if place not in served]


def hand_over(rows, place, number, holders, settled):
    """The holders when a row takes a number and the others do with the rest as well as they can."""
    start = {number: place}
    for other, holder in holders.items():
        if other != number and holder != place:
            start[other] = holder
    kept = dict(settled)
    kept[number] = place
    return serve_more(rows, start, kept)


def settle_row(rows, place, holders, settled):
    """Settle the best number that a row can have with as many rows served as before; the holders then."""
    for number in rows[place]:
        if number not in settled:
            tried = hand_over(rows, place, number, holders, settled)
            if len(tried) == len(holders):
                settled[number] = place
                return tried
    # A row that holds a number can at least keep it, so this one holds none. It finds none later either: what
    # would serve it then would have served it now.
    return holders


def most_served(rows):
    return len(serve_more(rows, {}, {}))


def serve_rows(rows):
    holders = serve_more(rows, {}, {})
    settled = {}
    for place in range(len(rows)):
        holders = settle_row(rows, place, holders, settled)
    answer = [None for row in rows]
    for number, place in settled.items():
        answer[place] = number
    return answer


def short_rows(rows):
    holders = serve_more(rows, {}, {})
    # Every number that is met here is held: with a free one a row more could be served. So behind the rows
    # without a number each row that is met brings just one number, its own.
    answer = unserved(rows, holders)
    done = 0
    while done < len(answer):
        row = rows[answer[done]]
        for number in row:
            if holders[number] not in answer:
                answer.append(holders[number])
        done += 1
    return sorted(answer)
