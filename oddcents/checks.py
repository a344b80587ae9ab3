"""What counts as a number and as a seat, for all files of the package."""

from oddcents.errors import UnknownSeat


def is_between(value, low, high):
    """Tell whether a value is an integer from low to high."""
    # Python takes True and False for integers; the package does not.
    return isinstance(value, int) and not isinstance(value, bool) and low <= value <= high


def check_seat(seat, seat_count):
    """Raise UnknownSeat for what is not a seat of a table."""
    if not is_between(seat, 0, seat_count - 1):
        raise UnknownSeat("the table has no such seat")
