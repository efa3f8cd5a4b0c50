"""What one house owes: the dues of its weeks, its losses, and the bills that were sent."""


class Account:
    def __init__(self):
        self.dues = {}
        self.owed = 0
        # What is on no bill yet, dues and losses apart.
        self.open_dues = 0
        self.open_losses = 0
        self.sent = []

    def charge(self, week, cents):
        self.dues[week] = cents
        self.owed += cents
        self.open_dues += cents

    def lose(self, cents):
        self.owed += cents
        self.open_losses += cents

    def send(self, week):
        bill = (week, self.open_dues, self.open_losses)
        self.sent.append(bill)
        self.open_dues = 0
        self.open_losses = 0
        return bill

    def due(self, week):
        return self.dues.get(week, 0)

    def owes(self):
        return self.owed

    def unsent(self):
        return self.open_dues + self.open_losses

    def bills(self):
        return list(self.sent)
