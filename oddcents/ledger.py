"""A table with debts: seats lay out bills and hand over money, and what was done can be undone."""

from oddcents.checks import check_seat
from oddcents.errors import InvalidBill, InvalidOperation
from oddcents.evenings import Bill, check_mark, check_seat_count, no_shares, split_bill
from oddcents.settling import balance_after, payments
from oddcents.shares import Shares

# How many arguments an operation has; "lay" may have more, the seats that are there.
ARGUMENTS = {"lay": 2, "hand": 3, "move": 1, "settle": 0, "undo": 0, "redo": 0}


class Page:
    """An operation, what each seat is to get after it, and the mark after it; a page never changes."""

    def __init__(self, operation, due, mark):
        self.operation = operation
        self.due = due
        self.mark = mark


class Ledger:
    """A table at which bills are laid out by one seat each."""

    def __init__(self, seat_count, *, mark=0):
        check_seat_count(seat_count)
        check_mark(mark, seat_count)
        self._seat_count = seat_count
        # The first page is that of the beginning. Behind the page at which the ledger is stand the undone ones.
        self._pages = [Page((), no_shares(seat_count), mark)]
        self._at = 0

    @classmethod
    def replay(cls, seat_count, mark, *operations):
        """Return a ledger after operations."""
        ledger = cls(seat_count, mark=mark)
        ledger.apply_all(list(operations))
        return ledger

    @property
    def balance(self):
        """What each seat is to get, less than 0 if it owes."""
        return self._pages[self._at].due

    @property
    def mark_now(self):
        """The seat at which the mark is."""
        return self._pages[self._at].mark

    @property
    def history(self):
        """All operations in effect, a list of tuples of a name and arguments."""
        return [page.operation for page in self._pages[1:self._at + 1]]

    def lay(self, seat, amount, *seats):
        """Let a seat lay out the money for a bill, and return the shares of the bill."""
        check_seat(seat, self._seat_count)
        bill = Bill(amount, *seats)
        check_bill_at_table(bill, self._seat_count)
        shares, mark = split_bill(bill, self.mark_now, self._seat_count)
        laid = [0] * self._seat_count
        laid[seat] = amount
        self._write(("lay", seat, amount, *seats), self.balance + Shares(*laid) - shares, mark)
        return shares

    def hand(self, giver, taker, cents):
        """Let a seat hand money to another one, and return what the giver and the taker are to get then."""
        due = balance_after(self.balance, [(giver, taker, cents)])
        self._write(("hand", giver, taker, cents), due, self.mark_now)
        return due[giver], due[taker]

    def move(self, seat):
        """Move the mark to a seat, and return the seat at which it was."""
        check_seat(seat, self._seat_count)
        former = self.mark_now
        self._write(("move", seat), self.balance, seat)
        return former

    def settle(self):
        """Settle all debts, and return the payments that do it."""
        given = payments(self.balance)
        self._write(("settle",), no_shares(self._seat_count), self.mark_now)
        return given

    def undo(self):
        """Undo the last operation in effect, and return whether there was one."""
        if self._at == 0:
            return False
        self._at -= 1
        return True

    def redo(self):
        """Execute the operation that was undone last once more, and return whether there was one."""
        # It would do the same as before, so its page is still right.
        if self._at == len(self._pages) - 1:
            return False
        self._at += 1
        return True

    def apply_all(self, operations):
        """Execute a list of operations, all or none, and return the list of their results."""
        check_operations(operations)
        with Trial(self) as trial:
            results = [self._execute(operation) for operation in operations]
            trial.keep()
        return results

    def _execute(self, operation):
        """Execute an operation that has the right form, and return its result."""
        name = operation[0]
        arguments = operation[1:]
        if name == "lay":
            return self.lay(*arguments)
        if name == "hand":
            return self.hand(*arguments)
        if name == "move":
            return self.move(*arguments)
        if name == "settle":
            return self.settle()
        return self.undo() if name == "undo" else self.redo()

    def _write(self, operation, due, mark):
        """Write the page of a new operation, with which what was undone is gone."""
        del self._pages[self._at + 1:]
        self._pages.append(Page(operation, due, mark))
        self._at += 1


class Trial:
    """A block at the end of which a ledger has all that it had at its beginning, unless the block is kept."""

    def __init__(self, ledger):
        self._ledger = ledger
        self._restored = ledger
        self._pages = []
        self._at = 0

    def __enter__(self):
        ledger = self._ledger
        self._restored = ledger
        self._pages = list(ledger._pages)
        self._at = ledger._at
        return self

    def __exit__(self, kind, value, trace):
        restored = self._restored
        restored._pages = self._pages
        restored._at = self._at

    def keep(self):
        """Keep what is done in the block."""
        # The language lets __exit__ test no attribute, so there is no flag that it could ask for: instead it restores
        # a ledger that nobody has.
        self._restored = Ledger(2)


def check_bill_at_table(bill, seat_count):
    """Raise InvalidBill for the first seat of a bill that the table does not have."""
    for index, seat in enumerate(bill.seats):
        if seat >= seat_count:
            raise InvalidBill(index=index)


def is_operation(operation):
    """Tell whether a tuple begins with the name of an operation and has the right number of arguments."""
    if not operation or not isinstance(operation[0], str) or operation[0] not in ARGUMENTS:
        return False
    given = len(operation) - 1
    needed = ARGUMENTS[operation[0]]
    return given >= needed if operation[0] == "lay" else given == needed


def check_operations(operations):
    """Raise InvalidOperation for the first tuple that is not an operation."""
    for index, operation in enumerate(operations):
        if not is_operation(operation):
            raise InvalidOperation(index=index)
