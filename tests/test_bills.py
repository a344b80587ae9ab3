import unittest

from oddcents.errors import InvalidBill
from oddcents.evenings import Bill, Evening

from tables import paid, raised, seat_sets


class BillTests(unittest.TestCase):
    def assert_invalid(self, index, amount, *seats):
        with self.subTest(amount=amount, seats=seats):
            self.assertEqual(raised(InvalidBill, lambda: Bill(amount, *seats)).index, index)

    def test_examples(self):
        bill = Bill(11, 0, 2)
        self.assertEqual([bill.amount, bill.seats, bill.odd_cents, 1 in bill], [11, (0, 2), 1, False])
        self.assert_invalid(1, 11, 2, 0)

    def test_the_limits_of_amounts(self):
        for amount in (0, 1, 10 ** 12 - 1, 10 ** 12):
            self.assertEqual(Bill(amount, 0, 1).amount, amount)
        for amount in (-1, -2, -10 ** 12, 10 ** 12 + 1, 10 ** 18):
            self.assert_invalid(-1, amount, 0, 1)

    def test_all_sets_of_seats(self):
        for seats in seat_sets(8):
            self.assertEqual(Bill(100, *seats).seats, seats)
            self.assertIsInstance(Bill(100, *seats).seats, tuple)

    def test_no_seats(self):
        self.assert_invalid(0, 100)

    def test_seats_out_of_range(self):
        self.assertEqual(Bill(1, 7).seats, (7,))
        self.assert_invalid(0, 100, -1)
        self.assert_invalid(0, 100, 8)
        self.assert_invalid(0, 100, -1, 3)
        self.assert_invalid(0, 100, 8, 3)
        self.assert_invalid(1, 100, 0, 8)
        self.assert_invalid(1, 100, 0, -1)
        self.assert_invalid(2, 100, 5, 6, 8)
        self.assert_invalid(2, 100, 5, 6, 10 ** 20)
        self.assert_invalid(8, 100, 0, 1, 2, 3, 4, 5, 6, 7, 8)

    def test_seats_that_repeat(self):
        self.assert_invalid(1, 100, 0, 0)
        self.assert_invalid(1, 100, 7, 7)
        self.assert_invalid(2, 100, 0, 3, 3, 5)
        self.assert_invalid(3, 100, 1, 2, 4, 4)
        self.assert_invalid(2, 100, 0, 3, 0)

    def test_seats_that_descend(self):
        self.assert_invalid(1, 100, 1, 0)
        self.assert_invalid(1, 100, 3, 2, 4, 3)
        self.assert_invalid(2, 100, 0, 5, 4)
        self.assert_invalid(3, 100, 0, 5, 6, 1, 9)
        self.assert_invalid(8, 100, 0, 1, 2, 3, 4, 5, 6, 7, 6)

    def test_the_first_invalid_seat_is_reported(self):
        self.assert_invalid(1, 100, 2, 9, 1, -1)
        self.assert_invalid(0, 100, 9, 1, 0)

    def test_the_amount_is_checked_first(self):
        self.assert_invalid(-1, -1)
        self.assert_invalid(-1, -1, 8)
        self.assert_invalid(-1, 10 ** 12 + 1, 2, 1)
        self.assert_invalid(-1, 10 ** 12 + 1, 0, 0)

    def test_odd_cents(self):
        for amount in (0, 1, 6, 7, 8, 100, 10 ** 12 - 1, 10 ** 12):
            for size in range(1, 9):
                with self.subTest(amount=amount, size=size):
                    self.assertEqual(Bill(amount, *range(size)).odd_cents, amount % size)

    def test_which_seats_are_there(self):
        for seats in seat_sets(8):
            bill = Bill(100, *seats)
            self.assertEqual([seat in bill for seat in range(8)], [seat in seats for seat in range(8)])
        for seat in (-1, 8, 9, 10 ** 20):
            self.assertIs(seat in Bill(100, 0, 7), False)
        self.assertIs(7 in Bill(100, 0, 7), True)

    def test_the_greatest_number_of_seats(self):
        self.assertEqual([Bill.MAX_SEATS, Bill(1, 0).MAX_SEATS], [8, 8])

    def test_properties_are_not_assigned_to(self):
        bill = Bill(11, 0, 2)
        for name in ("amount", "seats", "odd_cents"):
            with self.assertRaises(AttributeError):
                setattr(bill, name, 1)
        self.assertEqual([bill.amount, bill.seats, bill.odd_cents], [11, (0, 2), 1])

    def test_what_the_caller_changes_later_is_not_kept(self):
        seats = [0, 2]
        bill = Bill(11, *seats)
        seats[0] = 1
        self.assertEqual(bill.seats, (0, 2))

    def test_all_numbers_are_plain_integers(self):
        bill = Bill(11, 0, 2)
        for number in [bill.amount, bill.odd_cents, *bill.seats, Bill.MAX_SEATS]:
            self.assertIs(number.__class__, int)


class SplitTests(unittest.TestCase):
    """How a bill is split at a table, and where the mark is afterwards."""

    def assert_split(self, seat_count, bill, mark, cents, mark_afterwards):
        shares, afterwards = Evening(seat_count, bill)(mark)
        self.assertEqual((shares.cents, afterwards), (cents, mark_afterwards))

    def test_odd_cents_go_to_those_behind_the_mark(self):
        self.assert_split(4, Bill(102, 0, 1, 2, 3), 0, (25, 26, 26, 25), 2)
        self.assert_split(4, Bill(102, 0, 1, 2, 3), 1, (25, 25, 26, 26), 3)
        self.assert_split(4, Bill(102, 0, 1, 2, 3), 2, (26, 25, 25, 26), 0)
        self.assert_split(4, Bill(102, 0, 1, 2, 3), 3, (26, 26, 25, 25), 1)

    def test_a_seat_at_the_mark_comes_last(self):
        self.assert_split(3, Bill(1, 0, 1, 2), 1, (0, 0, 1), 2)
        self.assert_split(3, Bill(2, 0, 1, 2), 1, (1, 0, 1), 0)
        self.assert_split(5, Bill(11, 1, 3), 3, (0, 6, 0, 5, 0), 1)
        self.assert_split(5, Bill(11, 1, 3), 1, (0, 5, 0, 6, 0), 3)

    def test_a_mark_that_is_not_there_for_the_bill(self):
        self.assert_split(5, Bill(11, 1, 3), 0, (0, 6, 0, 5, 0), 1)
        self.assert_split(5, Bill(11, 1, 3), 2, (0, 5, 0, 6, 0), 3)
        self.assert_split(5, Bill(11, 1, 3), 4, (0, 6, 0, 5, 0), 1)
        self.assert_split(8, Bill(5, 0, 3, 7), 5, (2, 0, 0, 1, 0, 0, 0, 2), 0)

    def test_without_odd_cents_the_mark_stays(self):
        for mark in range(4):
            self.assert_split(4, Bill(100, 0, 1, 2, 3), mark, (25, 25, 25, 25), mark)
            self.assert_split(4, Bill(100, 1, 3), mark, (0, 50, 0, 50), mark)
            self.assert_split(4, Bill(0, 0, 2), mark, (0, 0, 0, 0), mark)

    def test_one_seat_there(self):
        for mark in range(3):
            self.assert_split(3, Bill(7, 1), mark, (0, 7, 0), mark)

    def test_the_greatest_amount(self):
        self.assert_split(3, Bill(10 ** 12, 0, 1, 2), 2, (333333333334, 333333333333, 333333333333), 0)

    def test_all_tables_seats_marks_and_numbers_of_odd_cents(self):
        for seat_count in range(2, 9):
            for seats in seat_sets(seat_count):
                for amount in range(5 * len(seats), 6 * len(seats) + 1):
                    evening = Evening(seat_count, Bill(amount, *seats))
                    for mark in range(seat_count):
                        shares, afterwards = evening(mark)
                        self.assertEqual((shares.cents, afterwards), paid(seat_count, amount, seats, mark),
                                         (seat_count, seats, amount, mark))
                        self.assertEqual(shares.whole, amount)


if __name__ == "__main__":
    unittest.main()
