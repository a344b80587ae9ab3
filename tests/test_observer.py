import unittest
from random import Random

from oddcents.errors import Contradiction, InvalidNumber, UnknownSeat
from oddcents.evenings import Bill, Evening
from oddcents.knowing import MarkObserver

from tables import (LEAD, cells, made, many_evenings, paid, paid_in_all, raised, sample_evenings, told, very_often,
                    walked)

MOST = 10 ** 18


def example():
    return Evening(3, Bill(100, 0, 1, 2), Bill(11, 0, 2))


def shares_of(seat_count, bills, mark, number):
    """What each seat pays for the bill with a number, from 1, if the bills are paid again and again from a mark on."""
    times, index = (number - 1) // len(bills), (number - 1) % len(bills)
    walk = walked if times <= LEAD else very_often
    _, mark = walk(cells(seat_count, bills), mark, times)
    _, mark = paid_in_all(seat_count, bills[:index], mark)
    return paid(seat_count, *bills[index], mark)[0]


class ObserverTests(unittest.TestCase):
    def check_row(self, seat_count, bills, observations):
        """See all observations, and compare with a plain reckoning from all marks."""
        observer = MarkObserver(made(seat_count, bills))
        possible = list(range(seat_count))
        accepted = []
        for number, seat, cents in observations:
            remaining = [mark for mark in possible if shares_of(seat_count, bills, mark, number)[seat] == cents]
            with self.subTest(seat_count=seat_count, bills=bills, accepted=accepted, seen=(number, seat, cents)):
                if remaining:
                    self.assertEqual(observer.see(number, seat, cents), len(remaining))
                    possible = remaining
                    accepted.append((number, seat, cents))
                else:
                    raised(Contradiction, lambda: observer.see(number, seat, cents))
                self.assertEqual(observer.possible_marks, tuple(possible))
                self.assertEqual(observer.records, accepted)
        return accepted

    def observations(self, chance, seat_count, bills, numbers):
        """What could be seen: for some bills what a seat pays from some mark on, now and then one cent more or less."""
        seen = []
        for number in numbers:
            seat = chance.randrange(seat_count)
            cents = shares_of(seat_count, bills, chance.randrange(seat_count), number)[seat]
            seen.append((number, seat, cents + chance.choice((0, 0, 0, 0, 1, -1))))
        return seen

    def test_examples(self):
        observer = MarkObserver(example())
        self.assertEqual([observer.see(1, 2, 33), observer.possible_marks, observer.see(2, 0, 5),
                          observer.see(1, 1, 34)], [2, (0, 2), 2, 1])
        self.assertEqual(observer.records, [(1, 2, 33), (2, 0, 5), (1, 1, 34)])
        raised(Contradiction, lambda: MarkObserver(example()).see(1, 0, 5))

    def test_at_the_beginning(self):
        for seat_count in range(2, 9):
            observer = MarkObserver(Evening.together(seat_count, 5))
            self.assertEqual(observer.possible_marks, tuple(range(seat_count)))
            self.assertIsInstance(observer.possible_marks, tuple)
            self.assertEqual(observer.records, [])
            self.assertIsInstance(observer.records, list)

    def test_evenings_without_bills(self):
        for seat_count in range(2, 9):
            raised(InvalidNumber, lambda: MarkObserver(Evening(seat_count)))

    def test_each_bill_from_each_mark(self):
        for seat_count, bills in sample_evenings():
            for mark in range(seat_count) if bills else ():
                for number in (1, 2, 3, 7, 8):
                    cents = shares_of(seat_count, bills, mark, number)
                    self.check_row(seat_count, bills, [(number, seat, cents[seat]) for seat in range(seat_count)])

    def test_bills_are_paid_one_after_another(self):
        # The plain reckoning of the tests, once more and bill by bill.
        bills = [(1, (0, 1, 2, 3)), (2, (0, 2, 3)), (5, (1, 3))]
        for start in range(4):
            mark = start
            for number in range(1, 40):
                cents, mark = paid(4, *bills[(number - 1) % 3], mark)
                self.assertEqual(shares_of(4, bills, start, number), cents)

    def test_rows_of_observations(self):
        chance = Random(91)
        many = 0
        for seat_count, bills in many_evenings(92, 12, 5):
            if bills:
                numbers = [chance.randint(1, 30) for _ in range(8)]
                seen = self.observations(chance, seat_count, bills, numbers)
                many += len(seen) - len(self.check_row(seat_count, bills, seen))
        self.assertGreater(many, 20)

    def test_far_bills(self):
        chance = Random(93)
        for seat_count, bills in many_evenings(94, 3, 5):
            if bills:
                numbers = [MOST, MOST - 1, MOST // 7, chance.randint(1, MOST), chance.randint(1, 10 ** 9), 1]
                self.check_row(seat_count, bills, self.observations(chance, seat_count, bills, numbers))

    def test_a_far_bill_tells_the_mark(self):
        # 10 ** 18 - 1 leaves the rest 0 for three seats: the last bill is paid like the first one.
        observer = MarkObserver(Evening.together(3, 1))
        self.assertEqual(observer.see(MOST, 2, 1), 1)
        self.assertEqual(observer.possible_marks, (1,))
        self.assertEqual([observer.see(1, 2, 1), observer.see(MOST - 1, 1, 1), observer.see(MOST - 2, 2, 0)], [1, 1, 1])

    def test_what_is_seen_twice_is_recorded_twice(self):
        observer = MarkObserver(example())
        self.assertEqual([observer.see(1, 2, 33), observer.see(1, 2, 33)], [2, 2])
        self.assertEqual(observer.records, [(1, 2, 33), (1, 2, 33)])

    def test_thirty_bills(self):
        bills = [(amount, (0, 1, 2, 3, 4)[amount % 3:]) for amount in range(30)]
        for number in (30, 31, 60, 61):
            cents = shares_of(5, bills, 3, number)
            self.check_row(5, bills, [(number, seat, cents[seat]) for seat in range(5)])

    def test_contradictions_change_nothing(self):
        observer = MarkObserver(example())
        observer.see(1, 2, 33)
        # Each of these can be so from mark 1 on only, or from no mark.
        for seen in [(1, 2, 34), (1, 0, 32), (2, 1, 5), (1, 0, -34), (1, 0, 10 ** 20), (MOST, 1, 1)]:
            with self.subTest(seen=seen):
                raised(Contradiction, lambda: observer.see(*seen))
                self.assertEqual(observer.possible_marks, (0, 2))
                self.assertEqual(observer.records, [(1, 2, 33)])
        self.assertEqual(observer.see(1, 1, 34), 1)
        raised(Contradiction, lambda: observer.see(1, 1, 33))
        self.assertEqual(observer.possible_marks, (0,))
        self.assertEqual(observer.records, [(1, 2, 33), (1, 1, 34)])

    def test_seats_that_are_not_there_for_a_bill_pay_nothing(self):
        observer = MarkObserver(example())
        self.assertEqual(observer.see(2, 1, 0), 3)
        raised(Contradiction, lambda: observer.see(4, 1, 1))

    def test_negative_cents_are_never_paid(self):
        raised(Contradiction, lambda: MarkObserver(example()).see(1, 0, -33))

    def test_numbers_that_are_too_small_or_too_great(self):
        observer = MarkObserver(example())
        for number in (-MOST, -1, 0, MOST + 1, MOST * 10):
            with self.subTest(number=number):
                raised(InvalidNumber, lambda: observer.see(number, 0, 33))
        self.assertEqual([observer.possible_marks, observer.records], [(0, 1, 2), []])

    def test_seats_that_are_not_there(self):
        for seat_count in range(2, 9):
            observer = MarkObserver(Evening.together(seat_count, 5))
            for seat in (-seat_count, -1, seat_count, seat_count + 1, 10 ** 20):
                with self.subTest(seat_count=seat_count, seat=seat):
                    raised(UnknownSeat, lambda: observer.see(1, seat, 0))
            self.assertEqual([observer.possible_marks, observer.records], [tuple(range(seat_count)), []])

    def test_the_order_of_the_errors(self):
        observer = MarkObserver(example())
        for number in (0, MOST + 1):
            for seat in (-1, 0, 3):
                raised(InvalidNumber, lambda: observer.see(number, seat, 5))
        for number in (1, MOST):
            for seat in (-1, 3):
                raised(UnknownSeat, lambda: observer.see(number, seat, 5))
        raised(Contradiction, lambda: observer.see(1, 0, 5))
        self.assertEqual([observer.possible_marks, observer.records], [(0, 1, 2), []])

    def test_the_list_of_records_is_new(self):
        observer = MarkObserver(example())
        observer.see(1, 2, 33)
        records = observer.records
        records.append((1, 1, 1))
        observer.records.clear()
        self.assertEqual(observer.records, [(1, 2, 33)])
        observer.see(2, 0, 5)
        self.assertEqual(records, [(1, 2, 33), (1, 1, 1)])

    def test_marks_and_records_are_not_assigned_to(self):
        for name in ("possible_marks", "records"):
            with self.assertRaises(AttributeError):
                setattr(MarkObserver(example()), name, ())

    def test_observers_do_not_touch_the_evening_or_each_other(self):
        evening = example()
        one, other = MarkObserver(evening), MarkObserver(evening)
        one.see(1, 2, 33)
        self.assertEqual([other.possible_marks, other.records], [(0, 1, 2), []])
        self.assertEqual(told(evening.bills), [(100, (0, 1, 2)), (11, (0, 2))])

    def test_all_numbers_are_plain_integers(self):
        observer = MarkObserver(example())
        remaining = observer.see(1, 2, 33)
        for number in [remaining, *observer.possible_marks, *observer.records[0]]:
            self.assertIs(number.__class__, int)


if __name__ == "__main__":
    unittest.main()
