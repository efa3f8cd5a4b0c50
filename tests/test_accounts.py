"""Points 1, 15, 16 and 17: what one house owes, and its bills."""

import unittest

from papercircle.accounts import Account

MOST = 1000000


class NewAccountTest(unittest.TestCase):
    def test_owes_nothing(self):
        account = Account()
        self.assertEqual(account.owes(), 0)
        self.assertEqual(account.unsent(), 0)
        self.assertEqual(account.bills(), [])
        self.assertIs(type(account.bills()), list)
        for week in (1, 2, 150, 10 ** 12):
            self.assertEqual(account.due(week), 0)

    def test_first_bill_comes_to_nothing(self):
        account = Account()
        self.assertEqual(account.send(0), (0, 0, 0))
        self.assertEqual(account.bills(), [(0, 0, 0)])
        self.assertEqual((account.owes(), account.unsent()), (0, 0))


class ChargeTest(unittest.TestCase):
    def test_dues_of_several_weeks(self):
        account = Account()
        for week, cents in ((1, 30), (2, 0), (5, MOST), (6, 1)):
            self.assertIsNone(account.charge(week, cents))
        self.assertEqual([account.due(week) for week in range(0, 9)], [0, 30, 0, 0, 0, MOST, 1, 0, 0])
        self.assertEqual(account.owes(), MOST + 31)
        self.assertEqual(account.unsent(), MOST + 31)

    def test_a_week_for_nothing(self):
        account = Account()
        account.charge(4, 0)
        self.assertEqual((account.due(4), account.owes(), account.unsent()), (0, 0, 0))
        self.assertEqual(account.send(4), (4, 0, 0))

    def test_owes_and_unsent_behind_each_deed(self):
        account = Account()
        seen = []
        account.charge(1, 10)
        seen.append((account.owes(), account.unsent()))
        account.lose(500)
        seen.append((account.owes(), account.unsent()))
        account.send(1)
        seen.append((account.owes(), account.unsent()))
        account.charge(2, 7)
        seen.append((account.owes(), account.unsent()))
        account.send(2)
        seen.append((account.owes(), account.unsent()))
        account.lose(3)
        seen.append((account.owes(), account.unsent()))
        account.charge(3, 0)
        seen.append((account.owes(), account.unsent()))
        self.assertEqual(seen, [(10, 10), (510, 510), (510, 0), (517, 7), (517, 0), (520, 3), (520, 3)])

    def test_due_stays_once_billed(self):
        account = Account()
        account.charge(1, 10)
        account.send(1)
        self.assertEqual((account.due(1), account.due(2)), (10, 0))
        account.charge(3, 20)
        account.send(3)
        self.assertEqual([account.due(week) for week in (1, 2, 3, 4)], [10, 0, 20, 0])

    def test_asking_for_a_due_changes_nothing(self):
        account = Account()
        account.due(1)
        account.charge(2, 5)
        self.assertEqual(account.due(1), 0)
        self.assertEqual(account.send(2), (2, 5, 0))

    def test_a_loss_is_no_due(self):
        account = Account()
        account.charge(1, 10)
        account.lose(90)
        self.assertEqual(account.due(1), 10)


class LoseTest(unittest.TestCase):
    def test_losses_add_up(self):
        account = Account()
        for cents in (0, 1, MOST, 40):
            self.assertIsNone(account.lose(cents))
        self.assertEqual(account.owes(), MOST + 41)
        self.assertEqual(account.unsent(), MOST + 41)
        self.assertEqual(account.send(2), (2, 0, MOST + 41))

    def test_a_loss_for_nothing(self):
        account = Account()
        account.lose(0)
        self.assertEqual((account.owes(), account.unsent(), account.bills()), (0, 0, []))


class SendTest(unittest.TestCase):
    def test_dues_and_losses_apart(self):
        account = Account()
        account.charge(1, 10)
        account.lose(500)
        account.charge(2, 20)
        account.lose(7)
        bill = account.send(2)
        self.assertEqual(bill, (2, 30, 507))
        self.assertIs(type(bill), tuple)

    def test_bills_one_behind_the_other(self):
        account = Account()
        account.charge(1, 10)
        self.assertEqual(account.send(1), (1, 10, 0))
        account.charge(2, 20)
        account.charge(3, 30)
        account.lose(500)
        self.assertEqual(account.send(4), (4, 50, 500))
        account.lose(8)
        self.assertEqual(account.send(4), (4, 0, 8))
        account.charge(9, 90)
        self.assertEqual(account.send(9), (9, 90, 0))
        self.assertEqual(account.bills(), [(1, 10, 0), (4, 50, 500), (4, 0, 8), (9, 90, 0)])
        self.assertEqual((account.owes(), account.unsent()), (658, 0))

    def test_a_bill_that_comes_to_nothing(self):
        account = Account()
        account.charge(1, 10)
        account.send(1)
        self.assertEqual(account.send(1), (1, 0, 0))
        self.assertEqual(account.send(6), (6, 0, 0))
        self.assertEqual(account.bills(), [(1, 10, 0), (1, 0, 0), (6, 0, 0)])
        self.assertEqual((account.owes(), account.unsent()), (10, 0))

    def test_a_sent_bill_never_changes(self):
        account = Account()
        account.charge(1, 10)
        bill = account.send(1)
        account.charge(2, 20)
        account.lose(30)
        self.assertEqual(bill, (1, 10, 0))
        self.assertEqual(account.bills(), [(1, 10, 0)])
        account.send(2)
        self.assertEqual(account.bills(), [(1, 10, 0), (2, 20, 30)])

    def test_all_bills_and_what_is_unsent_make_up_what_is_owed(self):
        account = Account()
        for week in range(1, 151):
            account.charge(week, week * 37 % 1000)
            if week % 4 == 0:
                account.lose(week * 91 % 5000)
            if week % 7 == 0:
                account.send(week)
            billed = sum(dues + losses for sent, dues, losses in account.bills())
            self.assertEqual(account.owes(), billed + account.unsent())
        self.assertEqual(len(account.bills()), 21)
        dues = sum(account.due(week) for week in range(1, 151))
        losses = sum(week * 91 % 5000 for week in range(4, 151, 4))
        self.assertEqual(account.owes(), dues + losses)


class ApartTest(unittest.TestCase):
    def test_a_changed_list_of_bills(self):
        account = Account()
        account.bills().append((9, 9, 9))
        self.assertEqual(account.bills(), [])
        account.charge(1, 10)
        account.send(1)
        bills = account.bills()
        bills[0] = (1, 0, 0)
        bills.append((2, 2, 2))
        self.assertEqual(account.bills(), [(1, 10, 0)])
        account.bills().clear()
        account.send(2)
        self.assertEqual(account.bills(), [(1, 10, 0), (2, 0, 0)])
        self.assertEqual(bills, [(1, 0, 0), (2, 2, 2)])

    def test_two_accounts(self):
        one, other = Account(), Account()
        one.charge(1, 10)
        one.lose(20)
        self.assertEqual((other.owes(), other.unsent(), other.due(1)), (0, 0, 0))
        one.send(1)
        self.assertEqual(other.bills(), [])
        other.charge(1, 5)
        self.assertEqual(other.send(3), (3, 5, 0))
        self.assertEqual(one.bills(), [(1, 10, 20)])
        self.assertEqual((one.owes(), other.owes()), (30, 5))
        self.assertEqual((one.due(1), other.due(1)), (10, 5))


if __name__ == "__main__":
    unittest.main()
