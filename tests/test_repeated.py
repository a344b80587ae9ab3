import unittest
from fractions import Fraction
from math import gcd

from oddcents.errors import InvalidMark, InvalidNumber
from oddcents.evenings import Bill, Evening, long_run, repeated
from oddcents.shares import Shares

from tables import LEAD, ROUND, cells, made, one_by_one, raised, sample_evenings, very_often, walked

MOST = 10 ** 18


def example():
    return Evening(3, Bill(100, 0, 1, 2), Bill(11, 0, 2))


class RepeatedTests(unittest.TestCase):
    def test_example(self):
        shares, mark = repeated(example(), 0, MOST)
        self.assertEqual([shares.cents, mark, long_run(example(), 1)],
                         [(38999999999999999999, 33000000000000000001, 39000000000000000000), 2,
                          ((39, 1), (33, 1), (39, 1))])

    def test_never(self):
        for seat_count in range(2, 9):
            for mark in range(seat_count):
                nothing = Shares(*[0] * seat_count)
                self.assertEqual(repeated(Evening.together(seat_count, 5), mark, 0), (nothing, mark))

    def test_once(self):
        for seat_count, bills in sample_evenings():
            evening = made(seat_count, bills)
            for mark in range(seat_count):
                self.assertEqual(repeated(evening, mark, 1), evening(mark))

    def test_few_times(self):
        for seat_count, bills in sample_evenings():
            evening = made(seat_count, bills)
            for mark in range(seat_count):
                for times in [*range(2, 10), 16, 31]:
                    with self.subTest(seat_count=seat_count, bills=bills, mark=mark, times=times):
                        result = repeated(evening, mark, times)
                        self.assertIsInstance(result, tuple)
                        shares, afterwards = result
                        self.assertIsInstance(shares, Shares)
                        self.assertEqual((shares.cents, afterwards), one_by_one(seat_count, bills, mark, times))

    def test_very_often(self):
        for seat_count, bills in sample_evenings():
            evening = made(seat_count, bills)
            table = cells(seat_count, bills)
            for mark in range(seat_count):
                for times in (MOST, MOST - 1, 123456789012345678):
                    with self.subTest(seat_count=seat_count, bills=bills, mark=mark, times=times):
                        shares, afterwards = repeated(evening, mark, times)
                        self.assertEqual((shares.cents, afterwards), very_often(table, mark, times))

    def test_numbers_that_are_too_small_or_too_great(self):
        for evening in (example(), Evening(3)):
            for times in (-MOST, -2, -1, MOST + 1, MOST * 10):
                with self.subTest(times=times):
                    raised(InvalidNumber, lambda: repeated(evening, 0, times))
        self.assertEqual(repeated(Evening(3), 1, MOST), (Shares(0, 0, 0), 1))

    def test_marks_that_are_not_there(self):
        for mark in (-3, -1, 3, 4, 10 ** 20):
            for times in (0, 1, MOST):
                with self.subTest(mark=mark, times=times):
                    raised(InvalidMark, lambda: repeated(example(), mark, times))

    def test_the_mark_comes_before_the_number(self):
        for mark in (-1, 3):
            for times in (-1, MOST + 1):
                with self.subTest(mark=mark, times=times):
                    raised(InvalidMark, lambda: repeated(example(), mark, times))

    def test_repeated_calls_and_errors_change_nothing(self):
        evening = example()
        before = [repeated(evening, mark, 7) for mark in range(3)]
        raised(InvalidMark, lambda: repeated(evening, 3, 7))
        raised(InvalidNumber, lambda: repeated(evening, 0, -1))
        self.assertEqual([repeated(evening, mark, 7) for mark in range(3)], before)

    def test_all_numbers_are_plain_integers(self):
        shares, mark = repeated(example(), 0, MOST)
        for number in [*shares.cents, mark]:
            self.assertIs(number.__class__, int)


class LongRunTests(unittest.TestCase):
    def test_fractions(self):
        self.assertEqual(long_run(Evening.together(2, 1), 0), ((1, 2), (1, 2)))
        self.assertEqual(long_run(Evening.together(3, 100), 2), ((100, 3), (100, 3), (100, 3)))
        self.assertEqual(long_run(Evening.together(8, 4), 5), ((1, 2),) * 8)
        self.assertEqual(long_run(Evening.together(4, 8), 3), ((2, 1),) * 4)

    def test_what_comes_before_the_first_return_does_not_count(self):
        # From mark 2 on seat 0 pays the first cent, and after that seats 1 and 0 take turns.
        evening = Evening(3, Bill(1, 0, 1))
        for mark in range(3):
            self.assertEqual(long_run(evening, mark), ((1, 2), (1, 2), (0, 1)))

    def test_a_seat_that_pays_an_odd_cent_at_the_beginning_only(self):
        # From mark 0 on seat 1 pays the first odd cent, and never another one.
        evening = Evening(4, Bill(3, 0, 1), Bill(3, 2, 3))
        self.assertEqual([evening(mark)[0].cents for mark in range(4)],
                         [(1, 2, 2, 1), (2, 1, 2, 1), (2, 1, 2, 1), (2, 1, 2, 1)])
        for mark in range(4):
            self.assertEqual(long_run(evening, mark), ((2, 1), (1, 1), (2, 1), (1, 1)))

    def test_the_mark_may_matter(self):
        evening = Evening(4, Bill(2, 0, 1, 2, 3), Bill(1, 0, 2))
        first = ((1, 1), (1, 1), (1, 1), (0, 1))
        later = ((1, 1), (0, 1), (1, 1), (1, 1))
        self.assertEqual([long_run(evening, mark) for mark in range(4)], [first, first, later, later])

    def test_without_bills_and_without_cents(self):
        for seat_count in range(2, 9):
            for mark in range(seat_count):
                self.assertEqual(long_run(Evening(seat_count), mark), ((0, 1),) * seat_count)
                self.assertEqual(long_run(Evening.together(seat_count, 0), mark), ((0, 1),) * seat_count)

    def expected(self, seat_count, bills, mark):
        table = cells(seat_count, bills)
        _, start = walked(table, mark, LEAD)
        full, _ = walked(table, start, ROUND)
        parts = [Fraction(cents, ROUND) for cents in full]
        return tuple((part.numerator, part.denominator) for part in parts)

    def test_all_marks(self):
        for seat_count, bills in sample_evenings():
            for mark in range(seat_count):
                with self.subTest(seat_count=seat_count, bills=bills, mark=mark):
                    result = long_run(made(seat_count, bills), mark)
                    self.assertEqual(result, self.expected(seat_count, bills, mark))
                    self.assertEqual(sum(Fraction(*part) for part in result), sum(amount for amount, _ in bills))

    def test_the_form_of_the_fractions(self):
        for seat_count, bills in sample_evenings():
            result = long_run(made(seat_count, bills), seat_count - 1)
            self.assertIsInstance(result, tuple)
            self.assertEqual(len(result), seat_count)
            for part in result:
                self.assertIsInstance(part, tuple)
                numerator, denominator = part
                self.assertIs(numerator.__class__, int)
                self.assertIs(denominator.__class__, int)
                self.assertGreater(denominator, 0)
                self.assertEqual(gcd(numerator, denominator), 1)

    def test_marks_that_are_not_there(self):
        for seat_count in range(2, 9):
            for mark in (-seat_count, -1, seat_count, seat_count + 1):
                with self.subTest(seat_count=seat_count, mark=mark):
                    raised(InvalidMark, lambda: long_run(Evening.together(seat_count, 5), mark))
                    raised(InvalidMark, lambda: long_run(Evening(seat_count), mark))


if __name__ == "__main__":
    unittest.main()
