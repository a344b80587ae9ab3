"""What counts as a number, as digits and as a seat, and sets of seats as numbers, for all files of the package."""

from oddcents.errors import UnknownSeat


def is_between(value, low, high):
    """Tell whether a value is an integer from low to high."""
    # Python takes True and False for integers; the package does not.
    return isinstance(value, int) and not isinstance(value, bool) and low <= value <= high


def is_digits(text):
    """Tell whether a text has one or more digits, and no other signs."""
    # Python also takes the digits of other scripts for digits; the package does not.
    return text.isascii() and text.isdigit()


def check_seat(seat, seat_count):
    """Raise UnknownSeat for what is not a seat of a table."""
    if not is_between(seat, 0, seat_count - 1):
        raise UnknownSeat("the table has no such seat")


def seats_of(number):
    """Return the seats of the set with a number, in ascending order; it has the bit s for each of its seats s."""
    return [seat for seat in range(number.bit_length()) if (number & (1 << seat)) != 0]
