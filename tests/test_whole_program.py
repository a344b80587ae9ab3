"""What holds over the whole program: evenings that are written and read again, or made by groups, and their use."""

import unittest
from random import Random

from oddcents.codec import decode_evening, encode_evening
from oddcents.errors import (CentError, DecodeError, EmptyGroup, InvalidBill, InvalidEvening, InvalidMark,
                             InvalidNumber, InvalidReceipt, InvalidText)
from oddcents.evenings import Bill, Evening, long_run, repeated
from oddcents.groups import Fixed, Group, Turns, Until, evening_of
from oddcents.knowing import MarkObserver, known_after, reset, telling
from oddcents.ledger import Ledger
from oddcents.parting import best_mark, fairest_order, first_difference, widest_gap
from oddcents.receipts import parse_receipt, receipt
from oddcents.settling import balance_after, payments
from oddcents.shares import Shares
from oddcents.texts import format_evening, parse_evening

from tables import cells, made, many_evenings, one_by_one, raised, sample_evenings, told, very_often

MOST = 10 ** 18


def all_evenings():
    """Evenings of all kinds, as (number of seats, bills)."""
    return [*sample_evenings(), *many_evenings(222, 6, 30)]


def read_again(evening):
    """The same evening, made of its text, of its bytes, and of both one after another."""
    text, data = format_evening(evening), encode_evening(evening)
    return [parse_evening(text), decode_evening(data), decode_evening(encode_evening(parse_evening(text))),
            parse_evening(format_evening(decode_evening(data)))]


def group_of_bills(bills):
    """A group that is there for bills (amount, seats) as these tell."""
    group = Group()
    for _, seats in bills[::-1]:
        group = Until(Fixed(*seats), 1, group)
    return group


def all_of(evening):
    """All that the program says of an evening."""
    seats = range(evening.seat_count)
    few = evening.bills[:6]
    return [evening.seat_count, told(evening.bills), len(evening), bool(evening),
            [evening(mark) for mark in seats], [repeated(evening, mark, MOST) for mark in seats],
            [long_run(evening, mark) for mark in seats], [widest_gap(evening, seat, 12345) for seat in seats],
            [best_mark(evening, seat, 12345) for seat in seats],
            [fairest_order(Evening(evening.seat_count, *few[:4]), mark) for mark in seats], known_after(evening),
            reset(evening.seat_count, *few), telling(evening.seat_count, *few),
            [receipt(evening, mark) for mark in seats], format_evening(evening), encode_evening(evening)]


class ReadAgainTests(unittest.TestCase):
    def test_evenings_do_not_differ_from_those_that_are_read_again(self):
        for seat_count, bills in all_evenings():
            evening = made(seat_count, bills)
            for same in read_again(evening):
                self.assertEqual([same.seat_count, told(same.bills)], [seat_count, bills])
                self.assertIsNone(first_difference(evening, same))
                self.assertEqual([format_evening(same), encode_evening(same)],
                                 [format_evening(evening), encode_evening(evening)])

    def test_the_program_says_the_same_of_an_evening_that_is_read_again(self):
        for seat_count, bills in all_evenings()[::7]:
            evening = made(seat_count, bills)
            told_of_it = all_of(evening)
            for same in read_again(evening):
                self.assertEqual(all_of(same), told_of_it)

    def test_receipts_tell_what_the_evening_gives(self):
        for seat_count, bills in all_evenings():
            evening = made(seat_count, bills)
            for mark in range(seat_count):
                shares, afterwards = parse_receipt(receipt(evening, mark))
                self.assertEqual((shares, afterwards), evening(mark))
                self.assertEqual(shares.whole, sum(amount for amount, _ in bills))

    def test_evenings_that_are_put_together_after_they_are_read(self):
        for seat_count, bills in many_evenings(223, 6, 7):
            evening = parse_evening(format_evening(made(seat_count, bills)))
            other = decode_evening(encode_evening(made(seat_count, bills[::-1])))
            self.assertEqual(told(parse_evening(format_evening(evening + other)).bills), bills + bills[::-1])
            self.assertEqual(told(decode_evening(encode_evening(evening * 3)).bills), bills * 3)
            both = "\n".join([format_evening(evening), *format_evening(other).split("\n")[1:]])
            self.assertEqual(format_evening(evening + other), both)

    def test_limits_are_the_same_everywhere(self):
        # For each evening that is not possible: the error of its bills, its text and its bytes.
        for seat_count, bills, kind, index, offset in (
                (1, [], InvalidEvening, -1, 1), (9, [], InvalidEvening, -1, 1), (3, [(5, (3,))], InvalidEvening, 0, 4),
                (7, [(5, (0,)), (130, (0, 7))], InvalidEvening, 1, 7), (3, [(5, (0,))] * 31, InvalidEvening, 30, 2),
                (3, [(10 ** 12 + 1, (0,))], InvalidBill, -1, 3)):
            rows = [f"bill {amount} " + " ".join(map(str, seats)) for amount, seats in bills]
            data = [111, seat_count, len(bills)]
            for amount, seats in bills:
                while amount > 127:
                    data.append(amount % 128 + 128)
                    amount //= 128
                data += [amount, sum(2 ** seat for seat in seats)]
            data.append(sum(byte * (at + 1) for at, byte in enumerate(data)) % 249)
            group, amounts = group_of_bills(bills), [amount for amount, _ in bills]
            for action in (lambda: made(seat_count, bills), lambda: evening_of(seat_count, group, *amounts),
                           lambda: parse_evening("\n".join([f"table {seat_count}", *rows]))):
                self.assertEqual(raised(kind, action).index, index)
            self.assertEqual(raised(DecodeError, lambda: decode_evening(data)).offset, offset)


class GroupEveningTests(unittest.TestCase):
    def test_all_evenings_can_be_made_by_a_group(self):
        for seat_count, bills in all_evenings():
            evening = evening_of(seat_count, group_of_bills(bills), *[amount for amount, _ in bills])
            self.assertEqual([evening.seat_count, told(evening.bills)], [seat_count, bills])
            self.assertIsNone(first_difference(evening, made(seat_count, bills)))

    def test_turns_are_evenings_that_are_repeated(self):
        for seat_count, bills in many_evenings(224, 6, 5):
            if bills:
                amounts = [amount for amount, _ in bills]
                group = Turns(*[Fixed(*seats) for _, seats in bills])
                self.assertEqual(told(evening_of(seat_count, group, *amounts * 4).bills),
                                 told((made(seat_count, bills) * 4).bills))

    def test_a_fixed_group_of_all_seats_is_an_evening_together(self):
        for seat_count in range(2, 9):
            group = Fixed(*range(seat_count))
            amounts = [5, 0, 100, 10 ** 12]
            self.assertIsNone(first_difference(evening_of(seat_count, group, *amounts),
                                               Evening.together(seat_count, *amounts)))
            # Who is away pays nothing, and the others pay all.
            for seat in range(seat_count):
                shares, _ = evening_of(seat_count, group - seat, *amounts)(0)
                self.assertEqual([shares[seat], shares.whole], [0, sum(amounts)])

    def test_evenings_of_groups_are_written_and_read(self):
        group = (Turns(Fixed(0, 1, 2), Fixed(3) + Fixed(1)) + Until(Group(), 3, Fixed(2))) - 1
        evening = evening_of(4, group, 100, 101, 102, 103, 104)
        self.assertEqual(format_evening(evening),
                         "table 4\nbill 100 0 2\nbill 101 3\nbill 102 0 2\nbill 103 2 3\nbill 104 0 2")
        for same in read_again(evening):
            self.assertEqual(all_of(same), all_of(evening))


class RepeatedTests(unittest.TestCase):
    """Ledgers and observers over evenings that are written, read and repeated."""

    def test_a_ledger_over_repeated_evenings(self):
        chance = Random(225)
        for seat_count, bills in many_evenings(226, 4, 6):
            evening = parse_evening(format_evening(made(seat_count, bills)))
            mark, times, seat = chance.randrange(seat_count), chance.randrange(1, 6), chance.randrange(seat_count)
            operations = [("lay", seat, bill.amount, *bill.seats) for bill in evening.bills] * times
            ledger = Ledger.replay(seat_count, mark, *operations)
            shares, afterwards = repeated(evening, mark, times)
            laid = [0] * seat_count
            laid[seat] = shares.whole
            self.assertEqual([ledger.balance, ledger.mark_now], [Shares(*laid) - shares, afterwards])
            self.assertEqual((shares.cents, afterwards), one_by_one(seat_count, bills, mark, times))
            if len(evening) * times <= 30:
                self.assertEqual(parse_receipt(receipt(evening * times, mark)), (shares, afterwards))
            given = ledger.settle()
            self.assertEqual(balance_after(Shares(*laid) - shares, given), Shares(*[0] * seat_count))
            self.assertEqual(given, payments(Shares(*laid) - shares))
            for _ in range(len(operations) + 1):
                self.assertTrue(ledger.undo())
            self.assertEqual([ledger.mark_now, ledger.balance.whole, ledger.undo()], [mark, 0, False])

    def test_receipts_of_single_bills_are_what_a_ledger_returns(self):
        for seat_count, bills in many_evenings(227, 4, 6):
            ledger = Ledger(seat_count, mark=1)
            for amount, seats in bills:
                text = receipt(Evening(seat_count, Bill(amount, *seats)), ledger.mark_now)
                shares = ledger.lay(0, amount, *seats)
                self.assertEqual(parse_receipt(text), (shares, ledger.mark_now))

    def test_an_observer_who_sees_receipts(self):
        for seat_count, bills in many_evenings(228, 4, 6):
            if bills:
                evening = decode_evening(encode_evening(made(seat_count, bills)))
                for mark in range(seat_count):
                    observer = MarkObserver(evening)
                    number, now = 1, mark
                    for bill in (evening * 3 if len(evening) <= 10 else evening).bills:
                        shares, now = parse_receipt(receipt(Evening(seat_count, bill), now))
                        for seat in range(seat_count):
                            observer.see(number, seat, shares[seat])
                        number += 1
                    self.assertIn(mark, observer.possible_marks)
                    afterwards = {repeated(evening, start, 3)[1] for start in observer.possible_marks}
                    # Whoever has seen odd cents knows the mark afterwards.
                    if any(bill.odd_cents for bill in evening.bills):
                        self.assertEqual(afterwards, {now})
                    else:
                        self.assertEqual(observer.possible_marks, tuple(range(seat_count)))

    def test_an_observer_who_sees_very_late_bills(self):
        for seat_count, bills in many_evenings(229, 2, 5):
            if bills:
                evening = parse_evening(format_evening(made(seat_count, bills)))
                times = (MOST - 1) // len(bills)
                for mark in range(seat_count):
                    _, now = very_often(cells(seat_count, bills), mark, times)
                    shares, _ = Evening(seat_count, evening[0])(now)
                    observer = MarkObserver(evening)
                    for seat in range(seat_count):
                        observer.see(times * len(bills) + 1, seat, shares[seat])
                    self.assertIn(mark, observer.possible_marks)


class ErrorTests(unittest.TestCase):
    def test_calls_that_raise_errors_change_nothing(self):
        evening = Evening(3, Bill(100, 0, 1, 2), Bill(11, 0, 2))
        group = Turns(Fixed(0, 1), Fixed(2)) + Fixed(1)
        before = [all_of(evening), [group.seats_for(number) for number in range(9)]]
        for kind, action in (
                (InvalidMark, lambda: receipt(evening, 3)), (InvalidMark, lambda: evening(-1)),
                (InvalidNumber, lambda: repeated(evening, 0, -1)), (InvalidEvening, lambda: evening * 16),
                (InvalidEvening, lambda: evening_of(2, group, 5, 6)), (EmptyGroup, lambda: evening_of(3, Group(), 5)),
                (InvalidBill, lambda: evening_of(3, group, 5, -1)), (InvalidNumber, Turns),
                (InvalidText, lambda: parse_evening(format_evening(evening) + "\n")),
                (InvalidReceipt, lambda: parse_receipt(receipt(evening, 0) + "\n")),
                (DecodeError, lambda: decode_evening(encode_evening(evening) + [0]))):
            self.assertIsInstance(raised(kind, action), CentError)
            self.assertEqual([all_of(evening), [group.seats_for(number) for number in range(9)]], before)

    def test_one_kind_of_text_is_not_another_one(self):
        for seat_count, bills in all_evenings()[::5]:
            evening = made(seat_count, bills)
            error = raised(InvalidText, lambda: parse_evening(receipt(evening, 0)))
            self.assertEqual([error.row, error.word], [0, 0])
            self.assertEqual(raised(InvalidReceipt, lambda: parse_receipt(format_evening(evening))).row, 0)
            self.assertEqual(raised(DecodeError, lambda: decode_evening(list(format_evening(evening)))).offset, 0)


if __name__ == "__main__":
    unittest.main()
