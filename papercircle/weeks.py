"""A week that is dealt: who was dealt which folder, who stayed without, and why."""

from papercircle.dealing import serve_rows, short_rows


class PastWeek:
    def __init__(self, names, rows):
        # The names of the houses in the order of joining, and for each the folders that fit it, the best first.
        self.names = list(names)
        self.served = serve_rows(rows)
        places = short_rows(rows)
        self.short_names = [names[place] for place in places]
        numbers = []
        for place in places:
            numbers.extend(rows[place])
        self.short_numbers = sorted(set(numbers))

    def dealt(self):
        return [(name, number) for name, number in zip(self.names, self.served) if number is not None]

    def without(self):
        return [name for name, number in zip(self.names, self.served) if number is None]

    def why(self):
        return (list(self.short_names), list(self.short_numbers))
