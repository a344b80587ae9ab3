"""What holds between the points: how the marks follow each other, and what different functions say of one evening."""

import unittest
from fractions import Fraction

from oddcents.evenings import Bill, Evening, long_run, repeated
from oddcents.knowing import MarkObserver, known_after, reset, telling
from oddcents.ledger import Ledger
from oddcents.parting import best_mark, fairest_order, first_difference, widest_gap
from oddcents.settling import payments
from oddcents.shares import Shares

from tables import made, many_evenings, sample_evenings

MOST = 10 ** 18


def all_there():
    """Evenings for which all seats are there, as (number of seats, bills)."""
    rows = [[1], [2, 3], [5, 0, 7, 11], [100, 101, 102], [10 ** 12, 10 ** 12 - 1, 1]]
    return [(seat_count, [(amount, tuple(range(seat_count))) for amount in amounts])
            for seat_count in range(2, 9) for amounts in rows]


def one_away():
    """Evenings for which one seat is away now and then, as (number of seats, bills)."""
    rows = []
    for seat_count in range(3, 9):
        everybody = tuple(range(seat_count))
        for away in everybody:
            others = everybody[:away] + everybody[away + 1:]
            rows.append((seat_count, [(seat_count - 2, everybody), (1, others)]))
            rows.append((seat_count, [(1, others), (10, everybody), (2, others), (7, everybody)]))
    return rows


def all_evenings():
    return [*all_there()[::2], *one_away()[::2], *sample_evenings()[::2], *many_evenings(111, 3, 6)]


class MarkTests(unittest.TestCase):
    def test_an_evening_keeps_the_cyclic_order_of_the_marks(self):
        for seat_count, bills in all_evenings():
            for times in (1, 3, MOST):
                marks = [repeated(made(seat_count, bills), mark, times)[1] for mark in range(seat_count)]
                # From each mark to the next one it never goes back, and round the table at most once in all.
                steps = [(marks[(mark + 1) % seat_count] - marks[mark]) % seat_count for mark in range(seat_count)]
                self.assertIn(sum(steps), (0, seat_count), (seat_count, bills, times))

    def test_what_all_pay_together_does_not_depend_on_the_mark(self):
        for seat_count, bills in all_evenings():
            evening = made(seat_count, bills)
            amount = sum(amount for amount, _ in bills)
            for mark in range(seat_count):
                self.assertEqual(evening(mark)[0].whole, amount)
                self.assertEqual(repeated(evening, mark, MOST)[0].whole, amount * MOST)
                self.assertEqual(sum(Fraction(*part) for part in long_run(evening, mark)), amount)

    def test_the_marks_are_those_of_a_ledger(self):
        for seat_count, bills in all_evenings():
            for mark in range(seat_count):
                ledger = Ledger(seat_count, mark=mark)
                ledger.apply_all([("lay", 0, amount, *seats) for amount, seats in bills])
                shares, afterwards = made(seat_count, bills)(mark)
                laid = Shares(sum(amount for amount, _ in bills), *[0] * (seat_count - 1))
                self.assertEqual([ledger.mark_now, ledger.balance], [afterwards, laid - shares])
                self.assertLessEqual(len(payments(ledger.balance)), seat_count - 1)


class AgreementTests(unittest.TestCase):
    def test_gaps_and_best_marks_are_those_of_repeated_evenings(self):
        for seat_count, bills in all_evenings():
            evening = made(seat_count, bills)
            for times in (1, MOST):
                rows = [repeated(evening, mark, times)[0] for mark in range(seat_count)]
                for seat in range(seat_count):
                    paid = [shares[seat] for shares in rows]
                    self.assertEqual(widest_gap(evening, seat, times), max(paid) - min(paid))
                    self.assertEqual(best_mark(evening, seat, times), paid.index(min(paid)))

    def test_a_mark_that_becomes_known(self):
        for seat_count, bills in all_evenings():
            evening = made(seat_count, bills)
            number = known_after(evening)
            marks = {repeated(evening, mark, MOST)[1] for mark in range(seat_count)}
            self.assertEqual(number is None, len(marks) > 1)
            if number is not None:
                self.assertEqual(len({long_run(evening, mark) for mark in range(seat_count)}), 1)
                times = -(-number // len(bills))
                self.assertEqual(len({repeated(evening, mark, times)[1] for mark in range(seat_count)}), 1)
                if len(bills) <= 6:
                    self.assertLessEqual(len(reset(seat_count, *evening.bills)), number)

    def test_lists_that_reset_the_mark(self):
        for seat_count, bills in all_evenings():
            if len(bills) <= 6:
                evening = made(seat_count, bills)
                indexes = reset(seat_count, *evening.bills)
                if indexes is None:
                    self.assertIsNone(known_after(evening))
                elif len(indexes) <= 30:
                    listed = Evening(seat_count, *[evening[index] for index in indexes])
                    self.assertEqual(known_after(listed), len(indexes))

    def test_shares_that_tell_the_mark(self):
        for seat_count, bills in all_evenings():
            indexes = telling(seat_count, *made(seat_count, bills).bills) if len(bills) <= 6 else None
            if indexes is not None:
                listed = Evening(seat_count, *[Bill(bills[index][0], *bills[index][1]) for index in indexes])
                for mark in range(seat_count):
                    observer = MarkObserver(listed)
                    shares, afterwards = listed(mark)
                    for seat in range(seat_count):
                        observer.see(1, seat, shares[seat])
                    # Whoever has seen these shares may not know the mark at the beginning, but the one afterwards.
                    self.assertIn(mark, observer.possible_marks)
                    self.assertEqual({listed(possible)[1] for possible in observer.possible_marks}, {afterwards})

    def test_the_fairest_order_is_no_worse_than_any_other_one(self):
        for seat_count, bills in all_evenings():
            if len(bills) <= 4:
                evening = made(seat_count, bills)
                for mark in range(seat_count):
                    order = fairest_order(evening, mark)
                    fair = Evening(seat_count, *[evening[index] for index in order])
                    self.assertLessEqual(abs(fair(mark)[0]), abs(evening(mark)[0]))
                    self.assertEqual(fairest_order(fair, mark), sorted(order))

    def test_evenings_that_do_not_differ(self):
        for seat_count, bills in all_evenings():
            evening = made(seat_count, bills)
            self.assertIsNone(first_difference(evening, evening))
            self.assertIsNone(first_difference(evening + evening, evening * 2))
            self.assertIsNone(first_difference(evening, evening + Evening.together(seat_count, 0) * 2))


class TableTests(unittest.TestCase):
    def test_tables_at_which_all_are_there(self):
        # Each odd cent goes to the next seat round the table, so all of it can be told from the sum of the amounts.
        for seat_count, bills in all_there():
            evening = made(seat_count, bills)
            whole = sum(amount for amount, _ in bills)
            for times in (1, 2, 7, MOST):
                for mark in range(seat_count):
                    cents = [0] * seat_count
                    least, odd = divmod(whole * times, seat_count)
                    for step in range(1, seat_count + 1):
                        cents[(mark + step) % seat_count] = least + (step <= odd)
                    expected = (Shares(*cents), (mark + odd) % seat_count)
                    self.assertEqual(repeated(evening, mark, times), expected)
                gap = 0 if whole * times % seat_count == 0 else 1
                for seat in range(seat_count):
                    self.assertEqual(widest_gap(evening, seat, times), gap)
                    self.assertEqual(best_mark(evening, seat, times), 0 if gap == 0 else (
                        min(mark for mark in range(seat_count)
                            if (seat - mark - 1) % seat_count >= whole * times % seat_count)))
            part = Fraction(whole, seat_count)
            for mark in range(seat_count):
                self.assertEqual(long_run(evening, mark), ((part.numerator, part.denominator),) * seat_count)
                self.assertEqual(fairest_order(evening, mark), list(range(len(bills))))
            self.assertIsNone(known_after(evening))
            self.assertIsNone(reset(seat_count, *evening.bills))
            self.assertIsNone(first_difference(evening, Evening.together(seat_count, *evening_amounts(bills)[::-1])))

    def test_one_seat_is_away_now_and_then(self):
        for seat_count in range(3, 9):
            everybody = list(range(seat_count))
            for away in everybody:
                others = everybody[:away] + everybody[away + 1:]
                evening = Evening(seat_count, Bill(seat_count - 2, *everybody), Bill(1, *others))
                # All marks become one in the end, and from then on each evening is like the one before it.
                self.assertEqual(known_after(evening), 2 * (seat_count - 1))
                first = {repeated(evening, mark, seat_count)[1] for mark in everybody}
                self.assertEqual(len(first), 1)
                runs = {long_run(evening, mark) for mark in everybody}
                self.assertEqual(len(runs), 1)
                # Who is away now and then pays less than the others in the long run.
                parts = [Fraction(*part) for part in runs.pop()]
                self.assertEqual(min(parts), parts[away])
                for seat in everybody:
                    self.assertEqual(widest_gap(evening, seat, MOST), widest_gap(evening, seat, seat_count))


def evening_amounts(bills):
    return [amount for amount, _ in bills]


class AgainTests(unittest.TestCase):
    def calls(self, evening, other):
        """What all functions return, each in a call of its own."""
        bills = evening.bills[:6]
        seat_count = evening.seat_count
        observer = MarkObserver(evening + Evening.together(seat_count, 1))
        return [
            lambda: [evening(mark) for mark in range(seat_count)],
            lambda: [repeated(evening, mark, 12345) for mark in range(seat_count)],
            lambda: [long_run(evening, mark) for mark in range(seat_count)],
            lambda: [widest_gap(evening, seat, 77) for seat in range(seat_count)],
            lambda: [best_mark(evening, seat, 77) for seat in range(seat_count)],
            lambda: fairest_order(evening, 1),
            lambda: first_difference(evening, other),
            lambda: known_after(evening),
            lambda: reset(seat_count, *bills),
            lambda: telling(seat_count, *bills),
            lambda: observer.records,
            lambda: [observer.possible_marks],
            lambda: [(evening + other).bills, (evening * 3).bills, evening.bills],
            lambda: payments(Shares(5, -4, *[0] * (seat_count - 2), -1) if seat_count < 8 else Shares(5, -5)),
        ]

    def test_repeated_calls_return_equal_results(self):
        for seat_count, bills in [*all_there()[::4], *one_away()[::5]]:
            evening = made(seat_count, bills)
            other = made(seat_count, bills[::-1])
            for call in self.calls(evening, other):
                first, same = call(), call()
                self.assertEqual(first, same)
                if isinstance(first, list):
                    first.reverse()
                    first.append(None)
                self.assertEqual(call(), same)

    def test_errors_leave_all_as_it_was(self):
        evening = Evening(3, Bill(100, 0, 1, 2), Bill(11, 0, 2))
        for call in self.calls(evening, evening):
            before = call()
            for wrong in (lambda: widest_gap(evening, 3, 1), lambda: best_mark(evening, 0, -1),
                          lambda: fairest_order(evening, 3), lambda: first_difference(evening, Evening(2)),
                          lambda: reset(3, *evening.bills * 4), lambda: MarkObserver(evening).see(1, 0, 5),
                          lambda: payments(Shares(1)), lambda: evening(3), lambda: evening[2]):
                with self.assertRaises(ValueError):
                    wrong()
            self.assertEqual(call(), before)


if __name__ == "__main__":
    unittest.main()
