"""Texts of evenings: a row for the table and one for each bill."""

from oddcents.checks import is_digits
from oddcents.errors import InvalidText
from oddcents.evenings import Bill, Evening

MAX_DIGITS = 13


def row_of(first, numbers):
    """Return a row with a first word and numbers."""
    return " ".join([first] + [str(number) for number in numbers])


def format_evening(evening):
    """Return the text of an evening."""
    rows = [row_of("table", [evening.seat_count])]
    for bill in evening.bills:
        rows.append(row_of("bill", [bill.amount] + list(bill.seats)))
    return "\n".join(rows)


def is_number(word):
    """Tell whether a word is a number as it stands in a text, without leading zeros."""
    return is_digits(word) and len(word) <= MAX_DIGITS and (word == "0" or word[0] != "0")


def check_row(row, words):
    """Raise InvalidText for the first word of a row that is wrong, superfluous or missing."""
    first, fewest, most = ("table", 2, 2) if row == 0 else ("bill", 3, len(words))
    for at, word in enumerate(words):
        right = word == first if at == 0 else is_number(word) and at < most
        if not right:
            raise InvalidText(row=row, word=at)
    if len(words) < fewest:
        raise InvalidText(row=row, word=len(words))


def numbers_of_row(row, text):
    """Return the numbers behind the first word of a row, a list."""
    words = text.split(" ")
    check_row(row, words)
    return [int(word) for word in words[1:]]


def parse_evening(text):
    """Return the evening of a text."""
    rows = [numbers_of_row(row, told) for row, told in enumerate(text.split("\n"))]
    seat_count = rows[0][0]
    bills = [Bill(*numbers) for numbers in rows[1:]]
    return Evening(seat_count, *bills)
