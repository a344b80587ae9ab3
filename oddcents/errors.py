"""The errors of the package."""


class CentError(ValueError):
    """The base class of all errors of the package."""


class InvalidBill(CentError):
    """No bill can be made of this: -1 is the index of the amount, others are those of seats."""

    def __init__(self, *, index):
        super().__init__(f"invalid bill, index {index}")
        self.index = index


class InvalidEvening(CentError):
    """No evening can be made of this: -1 is the index of the number of seats, others are those of bills."""

    def __init__(self, *, index):
        super().__init__(f"invalid evening, index {index}")
        self.index = index


class InvalidMark(CentError):
    """The table has no such seat for the mark."""


class UnknownSeat(CentError):
    """There is no such seat."""


class OtherTable(CentError):
    """Both have different numbers of seats."""


class InvalidNumber(CentError):
    """A number is out of its range."""


class TooManyBills(CentError):
    """There are more bills than can be tried out."""


class Contradiction(CentError):
    """No mark would remain possible."""


class NotBalanced(CentError):
    """What the seats are to get does not come to 0 in all."""


class EmptyGroup(CentError):
    """Nobody is there for a bill."""


class InvalidOperation(CentError):
    """The operation with this index has no such form as a ledger executes."""

    def __init__(self, *, index):
        super().__init__(f"invalid operation, index {index}")
        self.index = index


class InvalidText(CentError):
    """A word of a row does not have the form of the text of an evening."""

    def __init__(self, *, row, word):
        super().__init__(f"invalid text, row {row}, word {word}")
        self.row = row
        self.word = word


class InvalidReceipt(CentError):
    """A row does not have the form of a line of a receipt."""

    def __init__(self, *, row):
        super().__init__(f"invalid receipt, row {row}")
        self.row = row


class DecodeError(CentError):
    """The byte at this offset is wrong or missing."""

    def __init__(self, *, offset):
        super().__init__(f"invalid bytes, offset {offset}")
        self.offset = offset
