"""Bills, evenings of bills, and evenings that are repeated."""

from math import gcd

from oddcents.checks import is_between
from oddcents.errors import InvalidBill, InvalidEvening, InvalidMark, InvalidNumber, OtherTable
from oddcents.shares import Shares

MAX_AMOUNT = 10 ** 12
MIN_SEAT_COUNT = 2
MAX_TIMES = 10 ** 18


class Bill:
    """An amount in cents and the seats that are there."""

    MAX_SEATS = 8

    def __init__(self, amount, *seats):
        check_amount(amount)
        check_seats(seats)
        self._amount = amount
        self._seats = seats

    @property
    def amount(self):
        """The amount in cents."""
        return self._amount

    @property
    def seats(self):
        """The seats that are there, an ascending tuple."""
        return self._seats

    @property
    def odd_cents(self):
        """The cents that remain if all seats that are there have paid alike."""
        return self._amount % len(self._seats)

    def __contains__(self, seat):
        return is_between(seat, 0, Bill.MAX_SEATS - 1) and seat in self._seats


class Evening:
    """Bills that are paid one after another at a table."""

    MAX_BILLS = 30

    def __init__(self, seat_count, *bills):
        check_seat_count(seat_count)
        check_bills(seat_count, bills)
        self._seat_count = seat_count
        self._bills = bills

    @classmethod
    def together(cls, seat_count, *amounts):
        """Return the evening of bills with these amounts, for which all seats are there."""
        check_seat_count(seat_count)
        seats = list(range(seat_count))
        bills = [Bill(amount, *seats) for amount in amounts]
        return cls(seat_count, *bills)

    @property
    def seat_count(self):
        """The number of seats of the table."""
        return self._seat_count

    @property
    def bills(self):
        """The bills in their order, a tuple."""
        return self._bills

    def __call__(self, mark):
        """Return the shares of all seats from a mark on, and the mark afterwards."""
        check_mark(mark, self._seat_count)
        shares = no_shares(self._seat_count)
        for bill in self._bills:
            part, mark = split_bill(bill, mark, self._seat_count)
            shares = shares + part
        return shares, mark

    def __getitem__(self, index):
        if not is_between(index, 0, len(self._bills) - 1):
            raise InvalidNumber("there is no bill with such an index")
        return self._bills[index]

    # Without it Python would take [] for a way to go through the bills, until an index fails.
    def __iter__(self):
        raise TypeError("an evening is not iterated over: take its bills")

    def __len__(self):
        return len(self._bills)

    def __bool__(self):
        return bool(self._bills)

    def __add__(self, other):
        if self._seat_count != other._seat_count:
            raise OtherTable("the evenings are those of different numbers of seats")
        bills = self._bills + other._bills
        return Evening(self._seat_count, *bills)

    def __mul__(self, times):
        if not is_between(times, 0, Evening.MAX_BILLS):
            raise InvalidNumber("an evening is not multiplied by such a number")
        bills = self._bills * times
        return Evening(self._seat_count, *bills)


def check_amount(amount):
    """Raise InvalidBill for an amount that no bill can have."""
    if not is_between(amount, 0, MAX_AMOUNT):
        raise InvalidBill(index=-1)


def check_seats(seats):
    """Raise InvalidBill for the first seat that is wrong or out of order, or if there are none."""
    lowest = 0
    for index, seat in enumerate(seats):
        if not is_between(seat, lowest, Bill.MAX_SEATS - 1):
            raise InvalidBill(index=index)
        lowest = seat + 1
    if not seats:
        raise InvalidBill(index=0)


def check_seat_count(seat_count):
    """Raise InvalidEvening for a number of seats that no table can have."""
    if not is_between(seat_count, MIN_SEAT_COUNT, Bill.MAX_SEATS):
        raise InvalidEvening(index=-1)


def check_bills(seat_count, bills):
    """Raise InvalidEvening for the first bill with a seat that the table does not have, or for too many bills."""
    for index, bill in enumerate(bills):
        # Seats ascend, so the last one alone tells.
        if bill.seats[-1] >= seat_count:
            raise InvalidEvening(index=index)
    if len(bills) > Evening.MAX_BILLS:
        raise InvalidEvening(index=Evening.MAX_BILLS)


def check_mark(mark, seat_count):
    """Raise InvalidMark for a mark that is not a seat of the table."""
    if not is_between(mark, 0, seat_count - 1):
        raise InvalidMark("the table has no such seat for the mark")


def check_times(times):
    """Raise InvalidNumber for a number of evenings that is too small or too great."""
    if not is_between(times, 0, MAX_TIMES):
        raise InvalidNumber("an evening is not repeated so many times")


def no_shares(seat_count):
    """Return the shares of a table at which nobody has paid anything."""
    cents = [0] * seat_count
    return Shares(*cents)


def seats_behind(mark, seats):
    """Return ascending seats in the order in which they come round the table behind a mark."""
    return [seat for seat in seats if seat > mark] + [seat for seat in seats if seat <= mark]


def split_bill(bill, mark, seat_count):
    """Return the shares of a bill at a table from a mark on, and the mark afterwards."""
    cents = [0] * seat_count
    for seat in bill.seats:
        cents[seat] = bill.amount // len(bill.seats)
    for seat in seats_behind(mark, bill.seats)[:bill.odd_cents]:
        cents[seat] += 1
        mark = seat
    return Shares(*cents), mark


def twice(run):
    """Return a run that comes twice; a run is a list of what it does from each mark on: (shares, mark afterwards)."""
    doubled = []
    for shares, between in run:
        more, mark = run[between]
        doubled.append((shares + more, mark))
    return doubled


def repeated(evening, mark, times):
    """Return the shares and the mark after an evening has been repeated a number of times from a mark on."""
    check_mark(mark, evening.seat_count)
    check_times(times)
    shares = no_shares(evening.seat_count)
    # The number may be far too great to go through evening by evening, so the run is doubled for each binary digit.
    run = [evening(start) for start in range(evening.seat_count)]
    while times > 0:
        if times % 2 == 1:
            more, mark = run[mark]
            shares = shares + more
        run = twice(run)
        times = times // 2
    return shares, mark


def lowest_terms(numerator, denominator):
    """Return a fraction in lowest terms, (numerator, denominator), for a positive denominator."""
    common = gcd(numerator, denominator)
    return numerator // common, denominator // common


def long_run(evening, mark):
    """Return a fraction for each seat: what it pays per evening in the long run from a mark on."""
    # After as many evenings as there are marks, the marks come back again and again.
    _, start = repeated(evening, mark, evening.seat_count)
    shares, mark = evening(start)
    count = 1
    while mark != start:
        more, mark = evening(mark)
        shares = shares + more
        count += 1
    return tuple([lowest_terms(cents, count) for cents in shares.cents])
