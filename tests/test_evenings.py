import unittest

from oddcents.errors import InvalidBill, InvalidEvening, InvalidMark, InvalidNumber, OtherTable
from oddcents.evenings import Bill, Evening
from oddcents.shares import Shares

from tables import made, paid_in_all, raised, sample_evenings, told


def example():
    return Evening(3, Bill(100, 0, 1, 2), Bill(11, 0, 2))


def many(number):
    """A number of different bills for a table of two."""
    return [Bill(amount, 0, 1) for amount in range(number)]


class InvalidEveningTests(unittest.TestCase):
    def assert_invalid(self, index, action):
        self.assertEqual(raised(InvalidEvening, action).index, index)

    def test_the_number_of_seats(self):
        for seat_count in range(2, 9):
            self.assertEqual(Evening(seat_count).seat_count, seat_count)
        for seat_count in (-3, -1, 0, 1, 9, 10, 10 ** 20):
            with self.subTest(seat_count=seat_count):
                self.assert_invalid(-1, lambda: Evening(seat_count))
                self.assert_invalid(-1, lambda: Evening(seat_count, Bill(5, 0)))
                self.assert_invalid(-1, lambda: Evening(seat_count, Bill(5, 7)))
                self.assert_invalid(-1, lambda: Evening(seat_count, *many(31)))

    def test_a_seat_that_the_table_does_not_have(self):
        fine = Bill(10, 0, 1)
        for seat_count in range(2, 8):
            with self.subTest(seat_count=seat_count):
                self.assertEqual(len(Evening(seat_count, Bill(5, seat_count - 1))), 1)
                self.assert_invalid(0, lambda: Evening(seat_count, Bill(5, seat_count)))
                self.assert_invalid(0, lambda: Evening(seat_count, Bill(5, 0, seat_count), fine))
                self.assert_invalid(1, lambda: Evening(seat_count, fine, Bill(5, 0, 1, seat_count), fine))
                self.assert_invalid(2, lambda: Evening(seat_count, fine, fine, Bill(5, 7), Bill(5, 7)))
        self.assertEqual(len(Evening(8, Bill(5, 7))), 1)

    def test_thirty_bills_and_more(self):
        self.assertEqual(len(Evening(2, *many(30))), 30)
        for number in (31, 32, 60):
            self.assert_invalid(30, lambda: Evening(2, *many(number)))

    def test_thirty_one_bills_with_a_seat_that_the_table_does_not_have(self):
        for at in (0, 1, 17, 29, 30):
            bills = many(31)
            bills[at] = Bill(5, 0, 2)
            with self.subTest(at=at):
                self.assert_invalid(at, lambda: Evening(2, *bills))
        bills = many(30)
        bills[29] = Bill(5, 2)
        self.assert_invalid(29, lambda: Evening(2, *bills))


class TogetherTests(unittest.TestCase):
    def test_example(self):
        self.assertEqual(Evening.together(3, 100, 50)[1].seats, (0, 1, 2))

    def test_all_seats_are_there(self):
        for seat_count in range(2, 9):
            evening = Evening.together(seat_count, 5, 0, 10 ** 12)
            seats = tuple(range(seat_count))
            self.assertIsInstance(evening, Evening)
            self.assertEqual(evening.seat_count, seat_count)
            self.assertEqual(told(evening.bills), [(5, seats), (0, seats), (10 ** 12, seats)])

    def test_without_amounts(self):
        self.assertEqual([len(Evening.together(4)), Evening.together(4).seat_count], [0, 4])

    def test_invalid_amounts(self):
        for amounts in [(-1,), (10 ** 12 + 1,), (5, -1), (5, 6, 10 ** 12 + 1, 7)]:
            with self.subTest(amounts=amounts):
                self.assertEqual(raised(InvalidBill, lambda: Evening.together(3, *amounts)).index, -1)

    def test_the_number_of_seats_comes_before_the_amounts(self):
        for seat_count in (-1, 0, 1, 9):
            for amounts in [(), (5,), (-1,), (5, 10 ** 12 + 1), (5,) * 31]:
                with self.subTest(seat_count=seat_count, amounts=amounts):
                    error = raised(InvalidEvening, lambda: Evening.together(seat_count, *amounts))
                    self.assertEqual(error.index, -1)

    def test_amounts_come_before_the_number_of_bills(self):
        self.assertEqual(len(Evening.together(2, *range(30))), 30)
        self.assertEqual(raised(InvalidEvening, lambda: Evening.together(2, *range(31))).index, 30)
        self.assertEqual(raised(InvalidBill, lambda: Evening.together(2, *range(31), -1)).index, -1)
        self.assertEqual(raised(InvalidBill, lambda: Evening.together(2, -1, *range(31))).index, -1)


class EveningTests(unittest.TestCase):
    def test_example(self):
        evening = example()
        shares, mark = evening(0)
        self.assertEqual([shares.cents, mark, len(evening * 2 + evening), evening[1].amount], [(38, 34, 39), 2, 6, 11])

    def test_what_the_evening_was_made_of(self):
        evening = example()
        self.assertEqual(evening.seat_count, 3)
        self.assertEqual(told(evening.bills), [(100, (0, 1, 2)), (11, (0, 2))])
        self.assertEqual(told(Evening(5).bills), [])
        for name in ("seat_count", "bills"):
            with self.assertRaises(AttributeError):
                setattr(evening, name, 4)

    def test_what_the_caller_changes_later_is_not_kept(self):
        bills = [Bill(100, 0, 1, 2), Bill(11, 0, 2)]
        evening = Evening(3, *bills)
        bills.pop()
        self.assertEqual(len(evening), 2)

    def test_calls_from_all_marks(self):
        for seat_count, bills in sample_evenings():
            evening = made(seat_count, bills)
            for mark in range(seat_count):
                with self.subTest(seat_count=seat_count, bills=bills, mark=mark):
                    result = evening(mark)
                    self.assertIsInstance(result, tuple)
                    shares, afterwards = result
                    self.assertIsInstance(shares, Shares)
                    self.assertEqual((shares.cents, afterwards), paid_in_all(seat_count, bills, mark))
                    self.assertEqual(evening(mark), result)

    def test_a_call_without_bills(self):
        for seat_count in range(2, 9):
            for mark in range(seat_count):
                self.assertEqual(Evening(seat_count)(mark), (Shares(*[0] * seat_count), mark))

    def test_marks_that_are_not_there(self):
        for seat_count in range(2, 9):
            for evening in (Evening(seat_count), Evening.together(seat_count, 5)):
                for mark in (-seat_count, -1, seat_count, seat_count + 1, 10 ** 20):
                    with self.subTest(seat_count=seat_count, mark=mark):
                        raised(InvalidMark, lambda: evening(mark))

    def test_bills_by_index(self):
        evening = Evening(2, *many(30))
        self.assertEqual([evening[index].amount for index in range(30)], list(range(30)))

    def test_indexes_that_are_not_there(self):
        for index in (-1, -2, -3, 2, 3, 10 ** 20):
            with self.subTest(index=index):
                raised(InvalidNumber, lambda: example()[index])
        for index in (-1, 0, 1):
            with self.subTest(index=index):
                raised(InvalidNumber, lambda: Evening(3)[index])

    def test_length_and_truth(self):
        self.assertEqual([len(Evening(3)), len(example()), len(Evening(2, *many(30)))], [0, 2, 30])
        self.assertIs(bool(Evening(3)), False)
        self.assertIs(bool(example()), True)
        self.assertIs(bool(Evening(2, Bill(0, 0))), True)

    def test_the_greatest_number_of_bills(self):
        self.assertEqual([Evening.MAX_BILLS, example().MAX_BILLS], [30, 30])

    def test_errors_change_nothing(self):
        evening = example()
        before = evening(1)
        raised(InvalidMark, lambda: evening(3))
        raised(InvalidNumber, lambda: evening[2])
        raised(InvalidNumber, lambda: evening * 31)
        raised(InvalidEvening, lambda: evening * 30)
        raised(OtherTable, lambda: evening + Evening(2))
        self.assertEqual(told(evening.bills), [(100, (0, 1, 2)), (11, (0, 2))])
        self.assertEqual(evening(1), before)

    def test_all_numbers_are_plain_integers(self):
        shares, mark = example()(0)
        for number in [*shares.cents, mark, len(example()), example().seat_count, Evening.MAX_BILLS]:
            self.assertIs(number.__class__, int)


class SumTests(unittest.TestCase):
    def test_the_bills_of_both_in_order(self):
        one = Evening(3, Bill(1, 0), Bill(2, 1))
        other = Evening(3, Bill(3, 2))
        self.assertIsInstance(one + other, Evening)
        self.assertEqual((one + other).seat_count, 3)
        self.assertEqual(told((one + other).bills), [(1, (0,)), (2, (1,)), (3, (2,))])
        self.assertEqual(told((other + one).bills), [(3, (2,)), (1, (0,)), (2, (1,))])
        self.assertEqual(told((one + Evening(3)).bills), told(one.bills))
        self.assertEqual(told((Evening(3) + one).bills), told(one.bills))
        self.assertEqual([len(one), len(other)], [2, 1])

    def test_different_tables(self):
        for one, other in [(2, 3), (3, 2), (8, 2), (7, 8)]:
            with self.subTest(one=one, other=other):
                raised(OtherTable, lambda: Evening(one) + Evening(other))
                raised(OtherTable, lambda: Evening.together(one, 5) + Evening.together(other, 5))

    def test_too_many_bills(self):
        self.assertEqual(len(Evening(2, *many(14)) + Evening(2, *many(16))), 30)
        for one, other in [(30, 1), (1, 30), (15, 16), (30, 30)]:
            with self.subTest(one=one, other=other):
                error = raised(InvalidEvening, lambda: Evening(2, *many(one)) + Evening(2, *many(other)))
                self.assertEqual(error.index, 30)

    def test_different_tables_come_before_too_many_bills(self):
        raised(OtherTable, lambda: Evening(2, *many(30)) + Evening(3, *many(30)))


class ProductTests(unittest.TestCase):
    def test_the_bills_so_many_times(self):
        evening = example()
        for times in (0, 1, 2, 15):
            product = evening * times
            self.assertIsInstance(product, Evening)
            self.assertEqual(product.seat_count, 3)
            self.assertEqual(told(product.bills), [(100, (0, 1, 2)), (11, (0, 2))] * times)
        self.assertEqual(len(evening), 2)

    def test_the_limits_of_the_number(self):
        one = Evening(2, Bill(5, 0))
        self.assertEqual([len(one * 0), len(one * 30), len(Evening(2) * 0), len(Evening(2) * 30)], [0, 30, 0, 0])
        self.assertEqual([bool(one * 0), (one * 0).seat_count], [False, 2])
        for times in (-10 ** 20, -2, -1, 31, 32, 10 ** 20):
            for evening in (one, Evening(2), Evening(2, *many(30))):
                with self.subTest(times=times, bills=len(evening)):
                    raised(InvalidNumber, lambda: evening * times)

    def test_too_many_bills(self):
        self.assertEqual([len(Evening(2, *many(10)) * 3), len(Evening(2, *many(30)) * 1)], [30, 30])
        for number, times in [(30, 2), (2, 16), (16, 2), (30, 30), (2, 30)]:
            with self.subTest(number=number, times=times):
                error = raised(InvalidEvening, lambda: Evening(2, *many(number)) * times)
                self.assertEqual(error.index, 30)

    def test_a_product_is_paid_like_evenings_one_after_another(self):
        for mark in range(3):
            first, between = example()(mark)
            second, last = example()(between)
            self.assertEqual((example() * 2)(mark), (first + second, last))
            self.assertEqual((example() + example())(mark), (first + second, last))


if __name__ == "__main__":
    unittest.main()
