"""Bytes of evenings: lists of integers from 0 to 255."""

from oddcents.checks import is_between, seats_of
from oddcents.errors import DecodeError
from oddcents.evenings import MAX_AMOUNT, MIN_SEAT_COUNT, Bill, Evening

FIRST_BYTE = 111
# A group of seven bits is less than this, and its byte is so much greater if another group follows.
GROUP = 128


def amount_bytes(amount):
    """Return the bytes of an amount, the lowest group of seven bits first."""
    groups = []
    while amount >= GROUP:
        groups.append(amount % GROUP + GROUP)
        amount = amount // GROUP
    return groups + [amount]


def checksum(data):
    """Return the checksum of all bytes before it."""
    return sum([byte * (offset + 1) for offset, byte in enumerate(data)]) % 249


def encode_evening(evening):
    """Return the bytes of an evening, a list."""
    data = [FIRST_BYTE, evening.seat_count, len(evening)]
    for bill in evening.bills:
        data.extend(amount_bytes(bill.amount))
        data.append(sum([1 << seat for seat in bill.seats]))
    return data + [checksum(data)]


def byte_at(data, offset, low, high):
    """Return the byte at an offset, which is to be from low to high."""
    if offset >= len(data) or not is_between(data[offset], low, high):
        raise DecodeError(offset=offset)
    return data[offset]


def amount_at(data, first):
    """Return the amount whose bytes begin at an offset, and the offset behind them."""
    byte = byte_at(data, first, 0, 255)
    amount = byte % GROUP
    worth = 1
    offset = first + 1
    while byte >= GROUP:
        # Only the last byte of an amount can be 0, and of several it is not.
        byte = byte_at(data, offset, 1, 255)
        worth = worth * GROUP
        amount = amount + (byte % GROUP) * worth
        offset += 1
    if amount > MAX_AMOUNT:
        raise DecodeError(offset=first)
    return amount, offset


def decode_evening(data):
    """Return the evening of a list of bytes."""
    byte_at(data, 0, FIRST_BYTE, FIRST_BYTE)
    seat_count = byte_at(data, 1, MIN_SEAT_COUNT, Bill.MAX_SEATS)
    bill_count = byte_at(data, 2, 0, Evening.MAX_BILLS)
    offset = 3
    bills = []
    for _ in range(bill_count):
        amount, offset = amount_at(data, offset)
        seats = seats_of(byte_at(data, offset, 1, (1 << seat_count) - 1))
        bills.append(Bill(amount, *seats))
        offset += 1
    expected = checksum(data[:offset])
    byte_at(data, offset, expected, expected)
    if len(data) > offset + 1:
        raise DecodeError(offset=offset + 1)
    return Evening(seat_count, *bills)
