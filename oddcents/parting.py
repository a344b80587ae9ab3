"""How shares part: what a seat pays from each mark on, the fairest order of the bills, and evenings that differ."""

from oddcents.checks import check_seat
from oddcents.errors import OtherTable, TooManyBills
from oddcents.evenings import check_mark, no_shares, repeated, split_bill

MAX_ORDERED_BILLS = 7


def paid_from_each_mark(evening, seat, times):
    """Return a list of what a seat pays in a number of evenings from each mark on; a wrong number raises its error."""
    check_seat(seat, evening.seat_count)
    paid = []
    for mark in range(evening.seat_count):
        shares, _ = repeated(evening, mark, times)
        paid.append(shares[seat])
    return paid


def widest_gap(evening, seat, times):
    """Return the greatest difference between what a seat pays in a number of evenings from two marks on."""
    paid = paid_from_each_mark(evening, seat, times)
    return max(paid) - min(paid)


def best_mark(evening, seat, times):
    """Return the first mark from which on a seat pays least in a number of evenings."""
    paid = paid_from_each_mark(evening, seat, times)
    return paid.index(min(paid))


def longer_ways(evening, way):
    """Return a way with one more bill behind it, for each bill that it does not have, in list order."""
    order, shares, mark = way
    ways = []
    for index, bill in enumerate(evening.bills):
        if index not in order:
            part, afterwards = split_bill(bill, mark, evening.seat_count)
            ways.append((order + [index], shares + part, afterwards))
    return ways


def spread_of(way):
    """Return the spread of the shares of a way."""
    return abs(way[1])


def fairest_order(evening, mark):
    """Return the first order of the bills in which the spread of the shares from a mark on is least."""
    check_mark(mark, evening.seat_count)
    if len(evening) > MAX_ORDERED_BILLS:
        raise TooManyBills("not all orders of so many bills are tried out")
    # A way is an order of some of the bills, with its shares and the mark after it.
    ways = [([], no_shares(evening.seat_count), mark)]
    for _ in range(len(evening)):
        ways = [longer for way in ways for longer in longer_ways(evening, way)]
    # The ways are in list order, and of several that are least min returns the first one.
    best = min(ways, key=spread_of)
    return best[0]


def first_difference(one, other):
    """Return the first mark for which the shares or the marks afterwards of two evenings differ, or None."""
    if one.seat_count != other.seat_count:
        raise OtherTable("the evenings are those of different numbers of seats")
    for mark in range(one.seat_count):
        if one(mark) != other(mark):
            return mark
    return None
