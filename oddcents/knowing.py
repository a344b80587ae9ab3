"""What is known of the mark: after which bills, and by what seats have paid."""

from oddcents.checks import check_seat, is_between
from oddcents.errors import Contradiction, InvalidNumber, TooManyBills
from oddcents.evenings import Evening, repeated, split_bill

MAX_LISTED_BILLS = 6
MAX_BILL_NUMBER = 10 ** 18


def marks_after(bill, marks, seat_count):
    """Return the ascending tuple of the marks that are possible after a bill, if these are possible before it."""
    return tuple(sorted({split_bill(bill, mark, seat_count)[1] for mark in marks}))


def known_after(evening):
    """Return after how many bills of repeated evenings the mark does not depend on the beginning, or None."""
    marks = tuple(range(evening.seat_count))
    count = 0
    # Once an evening leaves as many marks as there were, these stay possible for ever; each one before takes some away.
    for _ in range(evening.seat_count):
        for bill in evening.bills:
            marks = marks_after(bill, marks, evening.seat_count)
            count += 1
            if len(marks) == 1:
                return count
    return None


def evening_of_few(seat_count, bills):
    """Return the evening of a few bills, of which lists can be tried out."""
    evening = Evening(seat_count, *bills)
    if len(evening) > MAX_LISTED_BILLS:
        raise TooManyBills("not all lists of so many bills are tried out")
    return evening


def reset(seat_count, *bills):
    """Return the first shortest list of indexes of bills after which the mark is always the same one, or None."""
    evening = evening_of_few(seat_count, bills)
    everywhere = tuple(range(seat_count))
    # For all marks that can remain, the first shortest list that leads to them.
    lists = {everywhere: []}
    level = [everywhere]
    # Lists of one length come in list order, and so do those that are longer by one.
    while level:
        later = []
        for marks in level:
            for index, bill in enumerate(evening.bills):
                remaining = marks_after(bill, marks, seat_count)
                if len(remaining) == 1:
                    return lists[marks] + [index]
                if remaining not in lists:
                    lists[remaining] = lists[marks] + [index]
                    later.append(remaining)
        level = later
    return None


def telling(seat_count, *bills):
    """Return the first shortest list of indexes of bills of which the shares tell the mark afterwards, or None."""
    evening = evening_of_few(seat_count, bills)
    # Odd cents are paid by seats that come one behind another, but never by all that are there, so the shares show
    # the last one of them, where the mark is then. Without odd cents they show nothing, and the mark stays.
    for index, bill in enumerate(evening.bills):
        if bill.odd_cents > 0:
            return [index]
    return None


def share_for_bill(evening, mark, number, seat):
    """Return what a seat pays for the bill with a number, from 1, if an evening is repeated from a mark on."""
    times, index = divmod(number - 1, len(evening))
    _, mark = repeated(evening, mark, times)
    for bill in evening.bills[:index]:
        _, mark = split_bill(bill, mark, evening.seat_count)
    shares, _ = split_bill(evening[index], mark, evening.seat_count)
    return shares[seat]


class MarkObserver:
    """Who knows an evening that is repeated again and again, but not the mark at the beginning."""

    def __init__(self, evening):
        if not evening:
            raise InvalidNumber("there are no bills to observe")
        self._evening = evening
        self._possible = tuple(range(evening.seat_count))
        self._accepted = []

    @property
    def possible_marks(self):
        """The marks at the beginning that remain possible, an ascending tuple."""
        return self._possible

    @property
    def records(self):
        """All accepted observations, a list of tuples (number, seat, cents)."""
        return list(self._accepted)

    def see(self, number, seat, cents):
        """Record that a seat pays so many cents for the bill with a number, and return how many marks remain."""
        if not is_between(number, 1, MAX_BILL_NUMBER):
            raise InvalidNumber("there is no bill with such a number")
        check_seat(seat, self._evening.seat_count)
        remaining = [mark for mark in self._possible
                     if share_for_bill(self._evening, mark, number, seat) == cents]
        if not remaining:
            raise Contradiction("no mark would remain possible")
        self._possible = tuple(remaining)
        self._accepted.append((number, seat, cents))
        return len(remaining)
