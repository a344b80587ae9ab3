"""What the tests share: tables that are computed anew, one cent after another, and how errors are checked."""

from itertools import combinations
from random import Random

from oddcents.evenings import Bill, Evening

# After so many evenings the marks come back again and again, for all lengths that a round of up to 8 marks can have.
LEAD = 8
ROUND = 840


def seat_sets(seat_count):
    """All sets of one or more seats of a table, as ascending tuples."""
    return [seats for size in range(1, seat_count + 1) for seats in combinations(range(seat_count), size)]


def paid(seat_count, amount, seats, mark):
    """What each seat pays for one bill, and the mark afterwards: odd cents go round the table one by one."""
    cents = [amount // len(seats) if seat in seats else 0 for seat in range(seat_count)]
    left = amount - sum(cents)
    walker = mark
    while left > 0:
        walker = (walker + 1) % seat_count
        if walker in seats:
            cents[walker] += 1
            left -= 1
            mark = walker
    return tuple(cents), mark


def paid_in_all(seat_count, bills, mark):
    """What each seat pays for bills (amount, seats) one after another, and the mark afterwards."""
    totals = [0] * seat_count
    for amount, seats in bills:
        cents, mark = paid(seat_count, amount, seats, mark)
        totals = [total + more for total, more in zip(totals, cents)]
    return tuple(totals), mark


def one_by_one(seat_count, bills, mark, times):
    """What each seat has paid after so many evenings, and the mark."""
    totals = [0] * seat_count
    for _ in range(times):
        cents, mark = paid_in_all(seat_count, bills, mark)
        totals = [total + more for total, more in zip(totals, cents)]
    return tuple(totals), mark


def cells(seat_count, bills):
    """What an evening does from each mark on, for tests that repeat it often."""
    return [paid_in_all(seat_count, bills, mark) for mark in range(seat_count)]


def walked(table, mark, times):
    totals = [0] * len(table)
    for _ in range(times):
        cents, mark = table[mark]
        totals = [total + more for total, more in zip(totals, cents)]
    return totals, mark


def very_often(table, mark, times):
    """What each seat has paid after more than LEAD evenings, and the mark, if these are the cells of the evening."""
    lead, start = walked(table, mark, LEAD)
    full, same = walked(table, start, ROUND)
    if same != start:
        raise AssertionError("the marks do not come back")
    rounds, rest = divmod(times - LEAD, ROUND)
    end, last = walked(table, start, rest)
    return tuple(a + b * rounds + c for a, b, c in zip(lead, full, end)), last


def made(seat_count, bills):
    """The evening of bills (amount, seats)."""
    return Evening(seat_count, *[Bill(amount, *seats) for amount, seats in bills])


def told(bills):
    """Bills as a list of (amount, seats)."""
    return [(bill.amount, bill.seats) for bill in bills]


def sample_evenings():
    """Tables of all sizes with bills (amount, seats) of many kinds, as (number of seats, bills)."""
    samples = [(seat_count, []) for seat_count in range(2, 9)]
    samples += [(seat_count, [(amount, seats)])
                for seat_count in (2, 3, 4) for seats in seat_sets(seat_count) for amount in range(1, len(seats))]
    for seat_count in range(2, 9):
        everybody = tuple(range(seat_count))
        samples.append((seat_count, [(100, everybody), (11, (0, seat_count - 1)), (7, everybody[:-1])]))
        samples.append((seat_count, [(seat_count + 1, everybody), (3, everybody[1:]), (5, everybody[::2])]))
        samples.append((seat_count, [(10 * seat_count, everybody)]))
        samples.append((seat_count, [(2, everybody), (1, everybody[::2])]))
    samples.append((8, [(13, (1, 2, 4, 7)), (0, (3,)), (10 ** 12, (0, 3, 6)), (999, (1, 5)), (5, (2, 3, 5, 6, 7))]))
    return samples


def raised(kind, action):
    """The error of exactly this class that an action raises."""
    try:
        action()
    except kind as error:
        if error.__class__ is not kind:
            raise AssertionError(f"{error!r} is not exactly {kind.__name__}") from error
        return error
    raise AssertionError(f"{kind.__name__} was not raised")


def random_bills(chance, seat_count, number, limit=40):
    """A number of bills (amount, seats) for a table; chance is a random.Random that was given its seed."""
    sets = seat_sets(seat_count)
    return [(chance.randrange(limit), chance.choice(sets)) for _ in range(number)]


def many_evenings(seed, each, most):
    """For each number of seats some random evenings of at most so many bills, as (number of seats, bills)."""
    chance = Random(seed)
    return [(seat_count, random_bills(chance, seat_count, chance.randint(0, most)))
            for seat_count in range(2, 9) for _ in range(each)]
