import unittest

from oddcents.errors import InvalidBill, InvalidEvening, InvalidMark, InvalidNumber, UnknownSeat
from oddcents.ledger import Ledger
from oddcents.settling import payments
from oddcents.shares import Shares

from ledgers import busy, state, whole
from tables import paid, raised, seat_sets


class LedgerTestCase(unittest.TestCase):
    def assert_refused(self, kind, ledger, action, index=None):
        """An error of this kind, after which all is as before, also what can be undone and redone."""
        before = whole(ledger)
        error = raised(kind, action)
        if index is not None:
            self.assertEqual(error.index, index)
        self.assertEqual(whole(ledger), before)


class BeginningTests(LedgerTestCase):
    def test_tables_of_all_sizes(self):
        for seat_count in range(2, 9):
            self.assertEqual(state(Ledger(seat_count)), [(0,) * seat_count, 0, []])
            for mark in range(seat_count):
                self.assertEqual(state(Ledger(seat_count, mark=mark)), [(0,) * seat_count, mark, []])

    def test_the_number_of_seats(self):
        for seat_count in (-1, 0, 1, 9, 10 ** 20):
            for mark in (0, -1, 9):
                self.assertEqual(raised(InvalidEvening, lambda: Ledger(seat_count, mark=mark)).index, -1)

    def test_marks_that_are_not_there(self):
        for seat_count in range(2, 9):
            for mark in (-seat_count, -1, seat_count, seat_count + 1, 10 ** 20):
                raised(InvalidMark, lambda: Ledger(seat_count, mark=mark))

    def test_the_mark_is_given_by_its_name_only(self):
        with self.assertRaises(TypeError):
            Ledger(3, 1)

    def test_properties_are_not_assigned_to(self):
        for name in ("balance", "mark_now", "history"):
            with self.assertRaises(AttributeError):
                setattr(Ledger(3), name, 1)

    def test_what_the_properties_return(self):
        ledger = busy()
        self.assertIsInstance(ledger.balance, Shares)
        self.assertIs(ledger.mark_now.__class__, int)
        self.assertIsInstance(ledger.history, list)
        for operation in ledger.history:
            self.assertIsInstance(operation, tuple)
        for cents in ledger.balance.cents:
            self.assertIs(cents.__class__, int)

    def test_the_history_is_new_for_each_reading(self):
        ledger = busy()
        before = state(ledger)
        ledger.history.clear()
        history = ledger.history
        history.append(("settle",))
        self.assertEqual(state(ledger), before)
        ledger.redo()
        self.assertEqual(len(history), 4)

    def test_ledgers_do_not_touch_each_other(self):
        one, other = Ledger(3), Ledger(3)
        one.lay(0, 1000, 0, 1, 2)
        self.assertEqual(state(other), [(0, 0, 0), 0, []])


class LayTests(LedgerTestCase):
    def test_examples(self):
        ledger = Ledger(3)
        self.assertEqual([ledger.lay(0, 1000, 0, 1, 2).cents, ledger.balance.cents, ledger.mark_now],
                         [(333, 334, 333), (667, -334, -333), 1])
        self.assertEqual(raised(InvalidBill, lambda: Ledger(3).lay(0, 1000, 0, 3)).index, 1)

    def test_all_bills(self):
        for seat_count in (2, 3, 4, 5):
            for seats in seat_sets(seat_count):
                for mark in range(seat_count):
                    for amount in (0, 1, 7, 100):
                        for seat in (0, seat_count - 1):
                            ledger = Ledger(seat_count, mark=mark)
                            cents, after = paid(seat_count, amount, seats, mark)
                            due = [-share for share in cents]
                            due[seat] += amount
                            shares = ledger.lay(seat, amount, *seats)
                            self.assertIsInstance(shares, Shares)
                            self.assertEqual(shares.cents, cents)
                            self.assertEqual(state(ledger), [tuple(due), after, [("lay", seat, amount, *seats)]])

    def test_bills_one_after_another(self):
        ledger = Ledger(4, mark=3)
        due, mark, history = [0] * 4, 3, []
        for number in range(60):
            seat, amount, seats = number % 4, number * 7 % 50, seat_sets(4)[number * 11 % 15]
            cents, mark = paid(4, amount, seats, mark)
            due = [more - share for more, share in zip(due, cents)]
            due[seat] += amount
            history.append(("lay", seat, amount, *seats))
            self.assertEqual(ledger.lay(seat, amount, *seats).cents, cents)
            self.assertEqual(state(ledger), [tuple(due), mark, history])
            self.assertEqual(ledger.balance.whole, 0)

    def test_the_seat_that_lays_out_need_not_be_there(self):
        ledger = Ledger(3)
        self.assertEqual(ledger.lay(2, 101, 0, 1).cents, (50, 51, 0))
        self.assertEqual(ledger.balance.cents, (-50, -51, 101))

    def test_the_limits_of_amounts(self):
        ledger = Ledger(2)
        self.assertEqual(ledger.lay(0, 10 ** 12, 1).cents, (0, 10 ** 12))
        self.assertEqual(ledger.lay(1, 0, 0, 1).cents, (0, 0))
        self.assertEqual(ledger.balance.cents, (10 ** 12, -10 ** 12))
        self.assertEqual(len(ledger.history), 2)
        for amount in (-10 ** 12, -1, 10 ** 12 + 1):
            self.assert_refused(InvalidBill, ledger, lambda: ledger.lay(0, amount, 0, 1), -1)

    def test_eight_seats(self):
        ledger = Ledger(8, mark=6)
        self.assertEqual(ledger.lay(7, 804, *range(8)).cents, (101, 101, 101, 100, 100, 100, 100, 101))
        self.assertEqual(ledger.mark_now, 2)

    def test_seats_that_are_not_there(self):
        for seat in (-3, -1, 3, 4, 10 ** 20):
            ledger = busy()
            self.assert_refused(UnknownSeat, ledger, lambda: ledger.lay(seat, 10, 0, 1))

    def test_bills_that_are_not_possible(self):
        for seats, index in [((), 0), ((-1,), 0), ((8,), 0), ((0, 0), 1), ((1, 0), 1), ((0, 1, 1), 2), ((0, 8), 1)]:
            ledger = busy()
            self.assert_refused(InvalidBill, ledger, lambda: ledger.lay(0, 10, *seats), index)

    def test_bills_with_a_seat_that_the_table_does_not_have(self):
        for seats, index in [((3,), 0), ((0, 3), 1), ((0, 1, 2, 3), 3), ((2, 3, 4), 1), ((5, 6, 7), 0), ((0, 7), 1)]:
            ledger = busy()
            self.assert_refused(InvalidBill, ledger, lambda: ledger.lay(0, 10, *seats), index)
        for seat_count in range(2, 8):
            ledger = Ledger(seat_count)
            self.assert_refused(InvalidBill, ledger, lambda: ledger.lay(0, 10, 0, seat_count), 1)

    def test_the_order_of_the_errors(self):
        ledger = busy()
        for seat in (-1, 3):
            self.assert_refused(UnknownSeat, ledger, lambda: ledger.lay(seat, -1, 5))
            self.assert_refused(UnknownSeat, ledger, lambda: ledger.lay(seat, 10))
        # The amount comes before the seats, and what no bill can have before what the table does not have.
        self.assert_refused(InvalidBill, ledger, lambda: ledger.lay(0, -1, 5, 3), -1)
        self.assert_refused(InvalidBill, ledger, lambda: ledger.lay(0, 10, 5, 3), 1)
        self.assert_refused(InvalidBill, ledger, lambda: ledger.lay(0, 10, 3, 4, 8), 2)


class HandTests(LedgerTestCase):
    def test_example(self):
        self.assertEqual(Ledger(3).hand(1, 0, 50), (50, -50))

    def test_what_both_are_to_get(self):
        ledger = Ledger(3)
        ledger.lay(0, 1000, 0, 1, 2)
        result = ledger.hand(1, 0, 300)
        self.assertIsInstance(result, tuple)
        self.assertEqual(result, (-34, 367))
        self.assertEqual(state(ledger), [(367, -34, -333), 1, [("lay", 0, 1000, 0, 1, 2), ("hand", 1, 0, 300)]])
        self.assertEqual(ledger.hand(0, 2, 1), (368, -334))

    def test_the_limits_of_the_cents(self):
        ledger = Ledger(2)
        self.assertEqual(ledger.hand(0, 1, 1), (1, -1))
        self.assertEqual(ledger.hand(1, 0, 10 ** 15), (10 ** 15 - 1, 1 - 10 ** 15))
        for cents in (-10 ** 15, -1, 0, 10 ** 15 + 1):
            self.assert_refused(InvalidNumber, ledger, lambda: ledger.hand(0, 1, cents))

    def test_seats_that_pay_themselves(self):
        ledger = busy()
        for seat in range(3):
            self.assert_refused(InvalidNumber, ledger, lambda: ledger.hand(seat, seat, 5))

    def test_seats_that_are_not_there(self):
        ledger = busy()
        for seat in (-3, -1, 3, 10 ** 20):
            for cents in (0, 5):
                self.assert_refused(UnknownSeat, ledger, lambda: ledger.hand(seat, 0, cents))
                self.assert_refused(UnknownSeat, ledger, lambda: ledger.hand(0, seat, cents))
                self.assert_refused(UnknownSeat, ledger, lambda: ledger.hand(seat, seat, cents))


class MoveTests(LedgerTestCase):
    def test_example(self):
        ledger = Ledger(3)
        self.assertEqual([ledger.move(2), ledger.mark_now], [0, 2])

    def test_all_seats(self):
        for seat_count in range(2, 9):
            for former in range(seat_count):
                for seat in range(seat_count):
                    ledger = Ledger(seat_count, mark=former)
                    self.assertEqual(ledger.move(seat), former)
                    self.assertEqual(state(ledger), [(0,) * seat_count, seat, [("move", seat)]])

    def test_the_next_bill_begins_behind_the_mark(self):
        ledger = Ledger(4)
        ledger.move(2)
        self.assertEqual(ledger.lay(0, 2, 0, 1, 2, 3).cents, (1, 0, 0, 1))

    def test_seats_that_are_not_there(self):
        for seat_count in range(2, 9):
            ledger = Ledger(seat_count)
            for seat in (-seat_count, -1, seat_count, 10 ** 20):
                self.assert_refused(UnknownSeat, ledger, lambda: ledger.move(seat))


class SettleTests(LedgerTestCase):
    def test_example(self):
        ledger = Ledger(3)
        ledger.lay(0, 1000, 0, 1)
        self.assertEqual([ledger.settle(), ledger.balance.cents, ledger.history],
                         [[(1, 0, 500)], (0, 0, 0), [("lay", 0, 1000, 0, 1), ("settle",)]])

    def test_the_payments_for_the_balance(self):
        for seat_count in range(2, 9):
            ledger = Ledger(seat_count)
            for seat in range(seat_count):
                ledger.lay(seat, 100 * seat + 7, *range(seat_count))
                ledger.lay(seat, 35, 0, seat_count - 1)
            expected = payments(ledger.balance)
            mark = ledger.mark_now
            self.assertEqual(ledger.settle(), expected)
            self.assertEqual(ledger.balance, Shares(*[0] * seat_count))
            self.assertEqual(ledger.mark_now, mark)
            self.assertEqual(ledger.history[-1], ("settle",))

    def test_nothing_to_settle(self):
        ledger = Ledger(5, mark=2)
        self.assertEqual(ledger.settle(), [])
        self.assertEqual(ledger.settle(), [])
        self.assertEqual(state(ledger), [(0,) * 5, 2, [("settle",), ("settle",)]])

    def test_payments_that_no_seat_can_hand_over_at_once(self):
        ledger = Ledger(2)
        ledger.hand(0, 1, 10 ** 15)
        ledger.hand(0, 1, 10 ** 15)
        self.assertEqual(ledger.settle(), [(1, 0, 2 * 10 ** 15)])
        self.assertEqual(ledger.balance.cents, (0, 0))

    def test_the_list_is_new(self):
        ledger = Ledger(2)
        ledger.hand(0, 1, 5)
        given = ledger.settle()
        given.append((0, 1, 7))
        self.assertEqual(state(ledger), [(0, 0), 0, [("hand", 0, 1, 5), ("settle",)]])
        ledger.undo()
        self.assertEqual(ledger.balance.cents, (5, -5))
        self.assertEqual(ledger.settle(), [(1, 0, 5)])


if __name__ == "__main__":
    unittest.main()
