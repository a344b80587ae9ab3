"""Shares: a number of cents for each seat."""

from oddcents.checks import is_between
from oddcents.errors import OtherTable, UnknownSeat


class Shares:
    """A number of cents for each seat, of any size; shares never change."""

    def __init__(self, *cents):
        self._cents = cents

    @property
    def cents(self):
        """The cents of all seats, a tuple."""
        return self._cents

    @property
    def whole(self):
        """The cents of all seats together."""
        return sum(self._cents)

    def __getitem__(self, seat):
        if not is_between(seat, 0, len(self._cents) - 1):
            raise UnknownSeat("there are no shares of such a seat")
        return self._cents[seat]

    # Without it Python would take [] for a way to go through the seats, until an index fails.
    def __iter__(self):
        raise TypeError("shares are not iterated over: take their cents")

    def __len__(self):
        return len(self._cents)

    def __eq__(self, other):
        return isinstance(other, Shares) and self._cents == other._cents

    def __add__(self, other):
        if len(self._cents) != len(other._cents):
            raise OtherTable("the shares are those of different numbers of seats")
        sums = [mine + its for mine, its in zip(self._cents, other._cents)]
        return Shares(*sums)

    def __sub__(self, other):
        return self + (-other)

    def __mul__(self, times):
        products = [cents * times for cents in self._cents]
        return Shares(*products)

    def __neg__(self):
        return self * -1

    def __abs__(self):
        return max(self._cents) - min(self._cents) if self._cents else 0
