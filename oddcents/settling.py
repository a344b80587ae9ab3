"""How debts are settled: balances after payments, and as few payments as possible."""

from oddcents.checks import check_seat, is_between, seats_of
from oddcents.errors import InvalidNumber, NotBalanced
from oddcents.shares import Shares

MAX_PAYMENT = 10 ** 15
MAX_SETTLED_SEATS = 8


def check_payment(seat_count, giver, taker, cents):
    """Raise UnknownSeat or InvalidNumber for a payment that is not possible at a table."""
    check_seat(giver, seat_count)
    check_seat(taker, seat_count)
    if giver == taker:
        raise InvalidNumber("a seat does not pay itself")
    if not is_between(cents, 1, MAX_PAYMENT):
        raise InvalidNumber("so many cents are not paid")


def balance_after(balance, given):
    """Return a balance after a list of payments (giver, taker, cents)."""
    due = list(balance.cents)
    for giver, taker, cents in given:
        check_payment(len(due), giver, taker, cents)
        due[giver] += cents
        due[taker] -= cents
    return Shares(*due)


def check_balance(balance):
    """Raise InvalidNumber or NotBalanced for a balance that is not settled."""
    if len(balance) > MAX_SETTLED_SEATS:
        raise InvalidNumber("a balance of so many seats is not settled")
    if balance.whole != 0:
        raise NotBalanced("what the seats are to get does not come to 0 in all")


def sums_of_sets(due):
    """Return what the seats of each set are to get; the index of a set is its number, as in seats_of."""
    sums = [0]
    for cents in due:
        sums = sums + [others + cents for others in sums]
    return sums


def number_of_groups(parting):
    """Return how many groups a parting has."""
    return len(parting[0])


def parted(due):
    """Return the seats in groups that come to 0 each, as many groups as possible."""
    sums = sums_of_sets(due)
    # The best parting of each set: its groups that come to 0, and its other seats. What the others are to get is
    # the sum of the set, so with a sum of 0 they are a group themselves.
    partings = [([], [])]
    for index in range(1, len(sums)):
        choices = []
        for seat in seats_of(index):
            groups, others = partings[index - (1 << seat)]
            choices.append((groups, others + [seat]))
        groups, others = max(choices, key=number_of_groups)
        partings.append((groups + [others], []) if sums[index] == 0 else (groups, others))
    groups, _ = partings[-1]
    return groups


def payments_within(group, due):
    """Return payments that settle a group that comes to 0: each but the last one settles a seat, and that one two."""
    rest = list(due)
    takers = [seat for seat in group if due[seat] > 0]
    given = []
    for giver in group:
        for taker in takers:
            cents = min(-rest[giver], rest[taker])
            if cents > 0:
                given.append((giver, taker, cents))
                rest[giver] += cents
                rest[taker] -= cents
    return given


def payments(balance):
    """Return a list of payments (giver, taker, cents), as few as possible, that settle a balance."""
    check_balance(balance)
    due = balance.cents
    return [payment for group in parted(due) for payment in payments_within(sorted(group), due)]


def fewest_payments(balance):
    """Return how many payments settle a balance at least."""
    return len(payments(balance))
