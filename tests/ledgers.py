"""What the tests of ledgers share: what a ledger has, and a plain reckoning with a row of states."""

from oddcents.ledger import Ledger
from oddcents.settling import payments
from oddcents.shares import Shares

from tables import paid


def state(ledger):
    """All that the properties of a ledger tell."""
    return [ledger.balance.cents, ledger.mark_now, ledger.history]


def whole(ledger):
    """All that a ledger has: its states from the beginning to the last undone operation, and at which of them it is."""
    at = 0
    while ledger.undo():
        at += 1
    states = [state(ledger)]
    while ledger.redo():
        states.append(state(ledger))
    for _ in states[at + 1:]:
        ledger.undo()
    return states, at


def busy():
    """A ledger with three operations in effect, and one that is undone."""
    ledger = Ledger(3, mark=1)
    ledger.lay(0, 1000, 0, 1, 2)
    ledger.hand(1, 0, 50)
    ledger.move(0)
    ledger.lay(2, 11, 0, 2)
    ledger.undo()
    return ledger


class Reckoning:
    """A plain ledger for operations that are right: a row of states [balance, mark, history], and the place in it."""

    def __init__(self, seat_count, mark):
        self.seat_count = seat_count
        self.row = [[(0,) * seat_count, mark, []]]
        self.at = 0

    def now(self):
        return self.row[self.at]

    def copy(self):
        same = Reckoning(self.seat_count, 0)
        same.row, same.at = list(self.row), self.at
        return same

    def execute(self, name, *arguments):
        """Execute an operation, and return its result, shares as a tuple."""
        if name == "undo":
            self.at -= (changed := self.at > 0)
            return changed
        if name == "redo":
            self.at += (changed := self.at + 1 < len(self.row))
            return changed
        balance, mark, history = self.now()
        due = list(balance)
        if name == "lay":
            seat, amount, *seats = arguments
            result, mark = paid(self.seat_count, amount, seats, mark)
            due = [more - share for more, share in zip(due, result)]
            due[seat] += amount
        elif name == "hand":
            giver, taker, cents = arguments
            due[giver] += cents
            due[taker] -= cents
            result = (due[giver], due[taker])
        elif name == "move":
            result, mark = mark, arguments[0]
        else:
            result = payments(Shares(*balance))
            due = [0] * self.seat_count
        self.row = [*self.row[:self.at + 1], [tuple(due), mark, [*history, (name, *arguments)]]]
        self.at += 1
        return result


def plain(result):
    """A result of a ledger, shares as a tuple."""
    return result.cents if isinstance(result, Shares) else result
