"""Receipts: a text of what each seat pays for an evening, and such texts read again."""

from oddcents.checks import is_between, is_digits
from oddcents.errors import InvalidReceipt
from oddcents.evenings import MIN_SEAT_COUNT, Bill
from oddcents.shares import Shares

LINE_SIGNS = 30
MAX_CENT_DIGITS = 24


def title_line(seat_count):
    """Return the first line of a receipt."""
    words = f" table of {seat_count} "
    signs = LINE_SIGNS - len(words)
    left = signs // 2
    return "=" * left + words + "=" * (signs - left)


def line_of(name, told):
    """Return a line with a name on the left and what is told of it on the right."""
    return f"{name:<4}{told:>26}"


def seat_line(seat, cents):
    """Return the line of what a seat pays."""
    units, rest = divmod(cents, 100)
    return line_of(seat, f"{units:,}.{rest:02d}")


def receipt(evening, mark):
    """Return the receipt of an evening from a mark on."""
    shares, afterwards = evening(mark)
    lines = [title_line(evening.seat_count)]
    for seat, cents in enumerate(shares.cents):
        lines.append(seat_line(seat, cents))
    lines.append(line_of("mark", afterwards))
    return "\n".join(lines)


def cents_of_line(line, seat):
    """Return what a seat pays by its line."""
    digits = line[4:].lstrip(" ").replace(",", "").replace(".", "")
    # Cents are written in one way only, so spaces, commas and the point are right if the same line comes out again.
    # An amount that is too long for its place makes the line longer, up to the longest one that is read.
    if not is_digits(digits) or len(digits) > MAX_CENT_DIGITS or seat_line(seat, int(digits)) != line:
        raise InvalidReceipt(row=seat + 1)
    return int(digits)


def mark_of_line(line, seat_count):
    """Return the mark by the last line of a receipt."""
    for mark in range(seat_count):
        if line == line_of("mark", mark):
            return mark
    raise InvalidReceipt(row=seat_count + 1)


def parse_receipt(text):
    """Return the shares and the mark that a receipt tells."""
    lines = text.split("\n")
    seat_count = len(lines) - 2
    if not is_between(seat_count, MIN_SEAT_COUNT, Bill.MAX_SEATS) or lines[0] != title_line(seat_count):
        raise InvalidReceipt(row=0)
    cents = [cents_of_line(lines[seat + 1], seat) for seat in range(seat_count)]
    mark = mark_of_line(lines[-1], seat_count)
    return Shares(*cents), mark
