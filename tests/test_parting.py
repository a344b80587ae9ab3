import unittest
from itertools import permutations

from oddcents.errors import InvalidMark, InvalidNumber, OtherTable, TooManyBills, UnknownSeat
from oddcents.evenings import Bill, Evening
from oddcents.parting import best_mark, fairest_order, first_difference, widest_gap

from tables import (cells, made, many_evenings, one_by_one, paid_in_all, raised, sample_evenings, told, very_often,
                    walked)

MOST = 10 ** 18


def example():
    return Evening(3, Bill(100, 0, 1, 2), Bill(11, 0, 2))


def paid_by(table, seat, times):
    """What a seat pays in so many evenings from each mark on, if these are the cells of the evening."""
    walk = walked if times < 100 else very_often
    return [walk(table, mark, times)[0][seat] for mark in range(len(table))]


class GapTests(unittest.TestCase):
    def check(self, seat_count, bills, numbers):
        evening = made(seat_count, bills)
        table = cells(seat_count, bills)
        for seat in range(seat_count):
            for times in numbers:
                expected = paid_by(table, seat, times)
                with self.subTest(seat_count=seat_count, bills=bills, seat=seat, times=times):
                    self.assertEqual(widest_gap(evening, seat, times),
                                     max(abs(one - other) for one in expected for other in expected))
                    self.assertEqual(best_mark(evening, seat, times), expected.index(min(expected)))

    def test_example(self):
        self.assertEqual([widest_gap(example(), 0, 1), best_mark(example(), 0, 1)], [1, 0])

    def test_few_evenings(self):
        for seat_count, bills in sample_evenings():
            self.check(seat_count, bills, [0, 1, 2, 3, 7])

    def test_many_evenings(self):
        for seat_count, bills in many_evenings(71, 2, 5):
            self.check(seat_count, bills, [1, 5, 12, MOST - 1, MOST])

    def test_the_numbers_are_those_that_go_through_all_bills(self):
        bills = [(100, (0, 1, 2)), (11, (0, 2)), (7, (1, 2))]
        for times in range(12):
            for seat in range(3):
                paid = [one_by_one(3, bills, mark, times)[0][seat] for mark in range(3)]
                self.assertEqual(widest_gap(made(3, bills), seat, times), max(paid) - min(paid))
                self.assertEqual(best_mark(made(3, bills), seat, times), paid.index(min(paid)))

    def test_a_gap_that_grows_with_the_evenings(self):
        # From marks 0 and 1 on seat 3 never pays the odd cent of the second bill, and from 2 and 3 on always.
        evening = Evening(4, Bill(2, 0, 1, 2, 3), Bill(1, 0, 2))
        for times in (0, 1, 2, 1000, MOST):
            self.assertEqual([widest_gap(evening, seat, times) for seat in range(4)], [0, times, 0, times])
        self.assertEqual([best_mark(evening, seat, MOST) for seat in range(4)], [0, 2, 0, 0])
        self.assertEqual([best_mark(evening, seat, 0) for seat in range(4)], [0, 0, 0, 0])

    def test_of_several_marks_the_first_one(self):
        # Each seat pays the only cent from the mark before it on, and nothing from all others.
        self.assertEqual(best_mark(Evening.together(8, 1), 0, 1), 0)
        self.assertEqual(best_mark(Evening.together(8, 1), 1, 1), 1)
        self.assertEqual(best_mark(Evening.together(8, 7), 3, 1), 3)

    def test_no_evenings_no_bills_and_no_cents(self):
        for seat_count in range(2, 9):
            for seat in range(seat_count):
                for evening, times in [(Evening.together(seat_count, 5), 0), (Evening(seat_count), 0),
                                       (Evening(seat_count), 1), (Evening(seat_count), MOST),
                                       (Evening.together(seat_count, 0), MOST)]:
                    self.assertEqual([widest_gap(evening, seat, times), best_mark(evening, seat, times)], [0, 0])

    def test_thirty_bills(self):
        bills = [(amount, (0, 1, 2, 3, 4)[amount % 3:]) for amount in range(30)]
        self.check(5, bills, [1, MOST])

    def test_seats_that_are_not_there(self):
        for part in (widest_gap, best_mark):
            for seat_count in range(2, 9):
                evening = Evening.together(seat_count, 5)
                for seat in (-seat_count, -1, seat_count, seat_count + 1, 10 ** 20):
                    with self.subTest(part=part, seat_count=seat_count, seat=seat):
                        raised(UnknownSeat, lambda: part(evening, seat, 1))

    def test_numbers_that_are_too_small_or_too_great(self):
        for part in (widest_gap, best_mark):
            for evening in (example(), Evening(3)):
                for times in (-MOST, -1, MOST + 1, MOST * 10):
                    with self.subTest(part=part, times=times):
                        raised(InvalidNumber, lambda: part(evening, 2, times))

    def test_the_seat_comes_before_the_number(self):
        for part in (widest_gap, best_mark):
            for seat in (-1, 3):
                for times in (-1, MOST + 1):
                    with self.subTest(part=part, seat=seat, times=times):
                        raised(UnknownSeat, lambda: part(example(), seat, times))

    def test_all_numbers_are_plain_integers(self):
        for part in (widest_gap, best_mark):
            self.assertIs(part(example(), 1, 7).__class__, int)


def fairest(seat_count, bills, mark):
    """The first order with the least spread, of all orders in list order."""
    spreads = {}
    for order in permutations(range(len(bills))):
        cents, _ = paid_in_all(seat_count, [bills[index] for index in order], mark)
        spreads[order] = max(cents) - min(cents)
    least = min(spreads.values())
    return list(min(order for order in spreads if spreads[order] == least))


class FairestOrderTests(unittest.TestCase):
    def test_example(self):
        self.assertEqual([fairest_order(example(), 0), fairest_order(Evening(3), 0)], [[0, 1], []])

    def test_all_orders(self):
        for seat_count, bills in [*many_evenings(72, 6, 4), *sample_evenings()]:
            for mark in range(seat_count):
                with self.subTest(seat_count=seat_count, bills=bills, mark=mark):
                    self.assertEqual(fairest_order(made(seat_count, bills), mark), fairest(seat_count, bills, mark))

    def test_other_orders_than_the_first_one_are_found(self):
        found = [fairest_order(made(seat_count, bills), mark)
                 for seat_count, bills in many_evenings(72, 6, 4) for mark in range(seat_count)]
        self.assertGreater(len([order for order in found if order != sorted(order)]), 20)

    def test_an_order_that_evens_out(self):
        # From mark 0 on the second bill has to come first: then seat 1 pays its cent, and seat 0 that of the first one.
        evening = Evening(3, Bill(1, 0, 1), Bill(1, 0, 1, 2), Bill(1, 2))
        self.assertEqual(evening(0)[0].cents, (0, 1, 2))
        self.assertEqual(Evening(3, evening[1], evening[0], evening[2])(0)[0].cents, (1, 1, 1))
        self.assertEqual(fairest_order(evening, 0), [1, 0, 2])

    def test_seats_that_pay_nothing_count(self):
        # In the first order those who pay anything are as close to each other, but seat 1 pays nothing.
        evening = Evening(3, Bill(1, 0), Bill(3, 0, 2), Bill(1, 0, 1))
        self.assertEqual(evening(0)[0].cents, (3, 0, 2))
        self.assertEqual(Evening(3, evening[0], evening[2], evening[1])(0)[0].cents, (2, 1, 2))
        self.assertEqual(fairest_order(evening, 0), [0, 2, 1])

    def test_seven_bills(self):
        bills = [(1, (0, 1, 2)), (4, (0, 2, 3)), (7, (1, 3)), (2, (0, 1, 2, 3)), (3, (0, 1, 3)), (5, (1, 2)),
                 (1, (0, 3))]
        for mark in (0, 2):
            order = fairest_order(made(4, bills), mark)
            self.assertEqual(sorted(order), list(range(7)))
            self.assertEqual(order, fairest(4, bills, mark))
        self.assertEqual(fairest_order(Evening.together(3, 1, 1, 1, 1, 1, 1, 1), 0), list(range(7)))

    def test_eight_bills_and_more(self):
        for number in (8, 9, 30):
            with self.subTest(number=number):
                raised(TooManyBills, lambda: fairest_order(Evening.together(2, *range(number)), 1))

    def test_marks_that_are_not_there(self):
        for seat_count in range(2, 9):
            for number in (0, 1, 7):
                for mark in (-1, seat_count, 10 ** 20):
                    evening = Evening.together(seat_count, *range(number))
                    raised(InvalidMark, lambda: fairest_order(evening, mark))

    def test_the_mark_comes_before_the_number_of_bills(self):
        for mark in (-1, 2, 3):
            raised(InvalidMark, lambda: fairest_order(Evening.together(2, *range(8)), mark))

    def test_the_list_is_new(self):
        evening = example()
        order = fairest_order(evening, 1)
        order.append(7)
        self.assertEqual(fairest_order(evening, 1), order[:-1])
        nothing = fairest_order(Evening(2), 1)
        nothing.append(7)
        self.assertEqual(fairest_order(Evening(2), 1), [])
        self.assertEqual(told(evening.bills), [(100, (0, 1, 2)), (11, (0, 2))])


class FirstDifferenceTests(unittest.TestCase):
    def test_example(self):
        other = Evening(3, Bill(100, 0, 1, 2), Bill(11, 0, 1))
        self.assertEqual([first_difference(example(), other), first_difference(example(), example())], [0, None])

    def test_all_marks(self):
        found = {}
        for seat_count in (2, 3, 4):
            evenings = [bills for count, bills in [*sample_evenings(), *many_evenings(73, 8, 3)] if count == seat_count]
            for one in evenings:
                for other in evenings:
                    differing = [mark for mark in range(seat_count)
                                 if paid_in_all(seat_count, one, mark) != paid_in_all(seat_count, other, mark)]
                    expected = differing[0] if differing else None
                    with self.subTest(seat_count=seat_count, one=one, other=other):
                        self.assertEqual(first_difference(made(seat_count, one), made(seat_count, other)), expected)
                    found[expected] = True
        self.assertIn(None, found)
        self.assertIn(0, found)
        self.assertIn(1, found)

    def test_other_marks_than_the_first_one(self):
        # Up to mark 5 seat s + 1 comes next in both; behind mark 6 comes seat 7 in one, and seat 1 in the other.
        one = Evening(8, Bill(1, 1, 2, 3, 4, 5, 6, 7))
        other = Evening(8, Bill(1, 1, 2, 3, 4, 5, 6))
        self.assertEqual(first_difference(one, other), 6)
        self.assertEqual(first_difference(other, one), 6)

    def test_shares_that_differ_with_the_same_marks_afterwards(self):
        self.assertEqual(first_difference(Evening.together(3, 4), Evening.together(3, 1)), 0)
        self.assertEqual(first_difference(Evening(3, Bill(1, 1)), Evening(3, Bill(1, 2))), 0)

    def test_marks_that_differ_with_the_same_shares(self):
        # From mark 0 on seat 1 pays the cent in both, and is at the mark afterwards in one of them only.
        single = Evening(2, Bill(1, 1))
        shared = Evening(2, Bill(1, 0, 1))
        self.assertEqual(single(0)[0], shared(0)[0])
        self.assertEqual(first_difference(single, shared), 0)

    def test_other_bills_with_the_same_results(self):
        self.assertIsNone(first_difference(Evening.together(3, 3), Evening.together(3, 1, 2)))
        self.assertIsNone(first_difference(Evening.together(3, 3), Evening.together(3, 1, 1, 1)))
        alone, both = Bill(7, 2), Bill(5, 0, 3)
        self.assertIsNone(first_difference(Evening(4, alone, both), Evening(4, both, alone)))

    def test_without_bills(self):
        for seat_count in range(2, 9):
            self.assertIsNone(first_difference(Evening(seat_count), Evening(seat_count)))
            self.assertIsNone(first_difference(Evening(seat_count), Evening.together(seat_count, 0)))
            self.assertEqual(first_difference(Evening(seat_count), Evening.together(seat_count, 1)), 0)

    def test_other_tables(self):
        for one, other in [(2, 3), (3, 2), (7, 8), (8, 2)]:
            raised(OtherTable, lambda: first_difference(Evening(one), Evening(other)))
            raised(OtherTable, lambda: first_difference(Evening.together(one, 5), Evening.together(other, 5)))


if __name__ == "__main__":
    unittest.main()
