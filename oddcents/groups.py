"""Groups: who is there for the bill with a number, and the evening of a group."""

from oddcents.errors import EmptyGroup, InvalidNumber
from oddcents.evenings import Bill, Evening, check_seat_count


class Group:
    """A group in which nobody ever is; all other groups are subclasses of it. Groups never change."""

    KIND = "nobody"

    def seats_for(self, number):
        """Return the seats that are there for the bill with a number, from 0, an ascending tuple."""
        return ()

    # The document lists the signs for each of its classes, so each of them has its own.
    def __add__(self, other):
        return Union(self, other)

    def __sub__(self, seat):
        return Without(self, seat)


class Fixed(Group):
    """A group in which there are always the same seats."""

    KIND = "fixed"

    def __init__(self, *seats):
        self._seats = tuple(sorted(set(seats)))

    def seats_for(self, number):
        """Return the seats that are there for the bill with a number, from 0, an ascending tuple."""
        return self._seats

    def __add__(self, other):
        return Union(self, other)

    def __sub__(self, seat):
        return Without(self, seat)


class Composed(Group):
    """A group that is made of other groups, and asks them who is there."""

    def asked_for(self, number, away):
        """Return the groups to be asked for a bill, a list of tuples (group, number of the bill for it, away).

        The seats that are away are not there, whatever a group says.
        """
        return []

    def seats_for(self, number):
        """Return the seats that are there for the bill with a number, from 0, an ascending tuple."""
        return seats_asked(self, number)


class Turns(Composed):
    """Groups that are taken in turn."""

    KIND = "turns"

    def __init__(self, *groups):
        if not groups:
            raise InvalidNumber("there are no groups to be taken in turn")
        self._groups = groups

    def asked_for(self, number, away):
        """Return the group whose turn it is; it counts its own bills only."""
        turn, index = divmod(number, len(self._groups))
        return [(self._groups[index], turn, away)]

    def seats_for(self, number):
        """Return the seats that are there for the bill with a number, from 0, an ascending tuple."""
        return seats_asked(self, number)

    def __add__(self, other):
        return Union(self, other)

    def __sub__(self, seat):
        return Without(self, seat)


class Until(Composed):
    """A group for the bills before a number, and a later group after that."""

    KIND = "until"

    def __init__(self, first, number, later):
        self._first = first
        self._number = number
        self._later = later

    def asked_for(self, number, away):
        """Return the first group or the later one; the later one counts its bills from 0 again."""
        if number < self._number:
            return [(self._first, number, away)]
        return [(self._later, number - self._number, away)]

    def seats_for(self, number):
        """Return the seats that are there for the bill with a number, from 0, an ascending tuple."""
        return seats_asked(self, number)

    def __add__(self, other):
        return Union(self, other)

    def __sub__(self, seat):
        return Without(self, seat)


class Union(Composed):
    """All who are in one of two groups or in both."""

    KIND = "union"

    def __init__(self, one, other):
        self._one = one
        self._other = other

    def asked_for(self, number, away):
        """Return both groups."""
        return [(self._one, number, away), (self._other, number, away)]


class Without(Composed):
    """A group without a seat."""

    KIND = "without"

    def __init__(self, group, seat):
        self._group = group
        self._seat = seat

    def asked_for(self, number, away):
        """Return the group, for which one more seat is away."""
        return [(self._group, number, tuple(sorted(set(away + (self._seat,)))))]


def seats_asked(group, number):
    """Return the seats that are there for a bill by a group that asks others, an ascending tuple."""
    seats = []
    # Groups may be nested deeper than calls can be, so what is still to be asked waits in a list. A group may also be
    # part of another one in very many ways, so nothing is asked twice.
    waiting = [(group, number, ())]
    asked = {}
    while waiting:
        question = waiting.pop()
        if question not in asked:
            asked[question] = True
            part, bill, away = question
            if isinstance(part, Composed):
                waiting.extend(part.asked_for(bill, away))
            else:
                seats.extend([seat for seat in part.seats_for(bill) if seat not in away])
    return tuple(sorted(set(seats)))


def bill_of(group, number, amount):
    """Return the bill with a number and an amount for which a group is there."""
    seats = group.seats_for(number)
    if not seats:
        raise EmptyGroup("nobody is there for a bill")
    return Bill(amount, *seats)


def evening_of(seat_count, group, *amounts):
    """Return the evening of bills with these amounts for which a group is there."""
    check_seat_count(seat_count)
    bills = [bill_of(group, number, amount) for number, amount in enumerate(amounts)]
    return Evening(seat_count, *bills)
