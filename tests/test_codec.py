import unittest
from random import Random

from oddcents.codec import decode_evening, encode_evening
from oddcents.errors import DecodeError
from oddcents.evenings import Bill, Evening

from tables import made, many_evenings, raised, random_bills, sample_evenings, seat_sets, told

# Amounts around the borders of seven bits, each with its bytes.
AMOUNTS = [
    (0, [0]), (1, [1]), (126, [126]), (127, [127]), (128, [128, 1]), (129, [129, 1]), (130, [130, 1]),
    (255, [255, 1]), (256, [128, 2]), (2 ** 14 - 1, [255, 127]), (2 ** 14, [128, 128, 1]),
    (2 ** 14 + 1, [129, 128, 1]), (2 ** 21 - 1, [255, 255, 127]), (2 ** 21, [128, 128, 128, 1]),
    (2 ** 28 - 1, [255, 255, 255, 127]), (2 ** 28, [128, 128, 128, 128, 1]),
    (2 ** 35 - 1, [255, 255, 255, 255, 127]), (2 ** 35, [128, 128, 128, 128, 128, 1]),
    (10 ** 12 - 1, [255, 159, 148, 165, 141, 29]), (10 ** 12, [128, 160, 148, 165, 141, 29]),
]

NO_BYTES = [None, "", "5", (), [], 5.0, True, False, b"5"]


def sealed(data):
    """Bytes with their checksum behind them."""
    total = 0
    for offset, byte in enumerate(data):
        total += byte * (offset + 1)
    return [*data, total % 249]


def bytes_of(seat_count, bills):
    """The bytes of bills (amount, seats)."""
    data = [111, seat_count, len(bills)]
    for amount, seats in bills:
        groups = [amount % 128]
        while amount := amount // 128:
            groups.append(amount % 128)
        data += [group + 128 for group in groups[:-1]] + groups[-1:] + [sum(2 ** seat for seat in seats)]
    return sealed(data)


def wrong_offset(data):
    """The offset that DecodeError tells of a list, or None; it goes through the list with the bytes that may come."""
    def fits(low, high):
        return at < len(data) and isinstance(data[at], int) and not isinstance(data[at], bool) \
            and low <= data[at] <= high

    at = 0
    for low, high in ((111, 111), (2, 8), (0, 30)):
        if not fits(low, high):
            return at
        at += 1
    for _ in range(data[2]):
        first, bits = at, ""
        while True:
            if not fits(0 if at == first else 1, 255):
                return at
            at += 1
            bits = format(data[at - 1] % 128, "07b") + bits
            if data[at - 1] < 128:
                break
        if int(bits, 2) > 10 ** 12:
            return first
        if not fits(1, 2 ** data[1] - 1):
            return at
        at += 1
    checksum = sealed(data[:at])[-1]
    if not fits(checksum, checksum):
        return at
    return None if at + 1 == len(data) else at + 1


def outcome(data):
    """What decode_evening gives: (number of seats, bills), or the offset of the error."""
    try:
        evening = decode_evening(data)
    except DecodeError as error:
        return error.offset
    return evening.seat_count, told(evening.bills)


class EncodeTests(unittest.TestCase):
    def test_example(self):
        self.assertEqual(encode_evening(Evening(3, Bill(130, 0, 2))), [111, 3, 1, 130, 1, 5, 177])

    def test_no_bills(self):
        for seat_count in range(2, 9):
            self.assertEqual(encode_evening(Evening(seat_count)), [111, seat_count, 0, (111 + 2 * seat_count) % 249])

    def test_amounts(self):
        for amount, groups in AMOUNTS:
            self.assertEqual(encode_evening(Evening(3, Bill(amount, 1))), sealed([111, 3, 1, *groups, 2]))

    def test_seats(self):
        for seat_count in range(2, 9):
            for seats in seat_sets(seat_count):
                self.assertEqual(encode_evening(Evening(seat_count, Bill(5, *seats))),
                                 sealed([111, seat_count, 1, 5, sum(2 ** seat for seat in seats)]))
        self.assertEqual(encode_evening(Evening(8, Bill(5, *range(8))))[4], 255)
        self.assertEqual(encode_evening(Evening(8, Bill(5, 7))), sealed([111, 8, 1, 5, 128]))

    def test_the_bills_follow_each_other(self):
        evening = Evening(4, Bill(0, 3), Bill(300, 0, 1), Bill(127, 2))
        self.assertEqual(encode_evening(evening), sealed([111, 4, 3, 0, 8, 172, 2, 3, 127, 4]))

    def test_checksums(self):
        # 111 + 2 * 8 + 3 * 1 + 4 * amount + 5 * 1, modulo 249.
        for amount, checksum in ((0, 135), (28, 247), (29, 2), (91, 1), (100, 37), (127, 145)):
            self.assertEqual(encode_evening(Evening(8, Bill(amount, 0)))[-1], checksum)
        found = {encode_evening(Evening(8, Bill(amount, *seats)))[-1]
                 for amount in range(128) for seats in seat_sets(8)}
        self.assertEqual(found, set(range(249)))

    def test_thirty_bills(self):
        evening = Evening(8, Bill(10 ** 12, *range(8))) * 30
        self.assertEqual(encode_evening(evening), bytes_of(8, [(10 ** 12, tuple(range(8)))] * 30))
        self.assertEqual(len(encode_evening(evening)), 3 + 30 * 7 + 1)

    def test_evenings_of_all_kinds(self):
        for seat_count, bills in [*sample_evenings(), *many_evenings(10, 10, 30)]:
            evening = made(seat_count, bills)
            data = encode_evening(evening)
            self.assertIsInstance(data, list)
            self.assertEqual(data, bytes_of(seat_count, bills))
            for byte in data:
                self.assertIs(byte.__class__, int)
                self.assertTrue(0 <= byte <= 255)

    def test_the_caller_may_modify_the_list(self):
        evening = Evening(3, Bill(130, 0, 2))
        data = encode_evening(evening)
        data.clear()
        self.assertEqual(encode_evening(evening), [111, 3, 1, 130, 1, 5, 177])
        self.assertEqual([evening.seat_count, told(evening.bills)], [3, [(130, (0, 2))]])


class DecodeTests(unittest.TestCase):
    def assert_wrong(self, offset, data):
        with self.subTest(data=data):
            before = list(data)
            self.assertEqual(wrong_offset(data), offset)
            self.assertEqual(raised(DecodeError, lambda: decode_evening(data)).offset, offset)
            self.assertEqual(data, before)

    def test_examples(self):
        evening = decode_evening([111, 3, 1, 130, 1, 5, 177])
        self.assertEqual([evening[0].amount, evening[0].seats], [130, (0, 2)])
        self.assert_wrong(1, [111, 1])

    def test_bytes_of_evenings_are_read_again(self):
        for seat_count, bills in [*sample_evenings(), *many_evenings(11, 10, 30)]:
            data = encode_evening(made(seat_count, bills))
            before = list(data)
            self.assertEqual(outcome(data), (seat_count, bills))
            self.assertEqual(outcome(bytes_of(seat_count, bills)), (seat_count, bills))
            self.assertEqual(data, before)

    def test_what_is_returned(self):
        evening = decode_evening([111, 3, 1, 130, 1, 5, 177])
        self.assertIsInstance(evening, Evening)
        self.assertIsInstance(evening[0], Bill)
        for number in [evening.seat_count, evening[0].amount, *evening[0].seats]:
            self.assertIs(number.__class__, int)

    def test_amounts(self):
        for amount, groups in AMOUNTS:
            self.assertEqual(outcome(sealed([111, 3, 1, *groups, 2])), (3, [(amount, (1,))]))

    def test_all_seats_of_all_tables(self):
        for seat_count in range(2, 9):
            for byte in range(256):
                seats = tuple(seat for seat in range(8) if byte // 2 ** seat % 2 == 1)
                right = bool(seats) and seats[-1] < seat_count
                wanted = (seat_count, [(5, seats)]) if right else 4
                self.assertEqual(outcome(sealed([111, seat_count, 1, 5, byte])), wanted)

    def test_the_first_byte(self):
        for byte in [*range(-2, 111), *range(112, 258), 10 ** 20]:
            self.assert_wrong(0, [byte, 3, 0, 117])
        self.assert_wrong(0, [112])
        self.assert_wrong(0, [0, 9, 31, -1])

    def test_the_number_of_seats(self):
        for byte in [-1, 0, 1, *range(9, 258), 10 ** 20]:
            self.assert_wrong(1, sealed([111, byte, 0]))
            self.assert_wrong(1, [111, byte, 31])

    def test_the_number_of_bills(self):
        for byte in [-1, *range(31, 258), 10 ** 20]:
            self.assert_wrong(2, sealed([111, 3, byte]))
            self.assert_wrong(2, [111, 3, byte, 256, -1])
        for number in range(31):
            self.assertEqual(outcome(sealed([111, 3, number, *[5, 1] * number])), (3, [(5, (0,))] * number))

    def test_an_empty_list(self):
        self.assert_wrong(0, [])

    def test_lists_that_end_early(self):
        for seat_count, bills in [(3, [(130, (0, 2))]), (8, [(10 ** 12, (0, 7)), (5, (1,)), (2 ** 21, (6,))]), (2, [])]:
            data = bytes_of(seat_count, bills)
            for length in range(len(data)):
                self.assert_wrong(length, data[:length])
        self.assert_wrong(3, [111, 3, 0])
        self.assert_wrong(4, [111, 3, 1, 128])
        self.assert_wrong(5, [111, 3, 1, 128, 255])
        self.assert_wrong(203, [111, 3, 1, *[255] * 200])

    def test_bytes_behind_the_checksum(self):
        for seat_count, bills in [(3, [(130, (0, 2))]), (8, [(10 ** 12, (0, 7)), (5, (1,))]), (2, [])]:
            data = bytes_of(seat_count, bills)
            for more in ([0], [255], [256], [None], [0, 0], data, [data[-1]]):
                self.assert_wrong(len(data), data + more)

    def test_checksums(self):
        data = [111, 3, 1, 130, 1, 5]
        for byte in [-1, *range(177), *range(178, 258), 177 + 249, 177 - 249]:
            self.assert_wrong(6, [*data, byte])
            self.assert_wrong(6, [*data, byte, 0])

    def test_what_is_no_integer(self):
        data = bytes_of(3, [(130, (0, 2)), (5, (1,))])
        for offset in range(len(data)):
            for wrong in NO_BYTES:
                self.assert_wrong(offset, [*data[:offset], wrong, *data[offset + 1:]])
        self.assert_wrong(2, [111, 2, True, 1, 1, sealed([111, 2, 1, 1, 1])[-1]])
        self.assert_wrong(3, [111, 2, 1, True, 1, sealed([111, 2, 1, 1, 1])[-1]])
        self.assert_wrong(4, [111, 2, 1, 1, True, sealed([111, 2, 1, 1, 1])[-1]])
        # Where the checksum is 1, True is still no byte.
        self.assertEqual(sealed([111, 8, 1, 91, 1])[-1], 1)
        self.assert_wrong(5, [111, 8, 1, 91, 1, True])
        self.assert_wrong(6, [111, 8, 1, 91, 1, 1, True])

    def test_bytes_out_of_range(self):
        data = bytes_of(3, [(130, (0, 2)), (2 ** 21, (1,))])
        for offset in range(len(data)):
            for wrong in (-1, 256, 257, 1000, -128, 10 ** 20):
                self.assert_wrong(offset, [*data[:offset], wrong, *data[offset + 1:]])

    def test_a_last_byte_of_several_that_is_0(self):
        self.assertEqual(outcome(sealed([111, 3, 1, 0, 1])), (3, [(0, (0,))]))
        self.assert_wrong(4, sealed([111, 3, 1, 128, 0, 1]))
        self.assert_wrong(4, sealed([111, 3, 1, 133, 0, 1]))
        self.assert_wrong(5, sealed([111, 3, 1, 128, 128, 0, 1]))
        self.assert_wrong(5, sealed([111, 3, 1, 128, 129, 0, 1]))
        self.assert_wrong(8, sealed([111, 3, 1, *[255] * 5, 0, 1]))
        # A group of several that is 0 is right if it is not the last one.
        self.assertEqual(outcome(sealed([111, 3, 1, 128, 128, 1, 1])), (3, [(2 ** 14, (0,))]))

    def test_amounts_that_are_too_great(self):
        self.assert_wrong(3, sealed([111, 3, 1, 129, 160, 148, 165, 141, 29, 1]))
        self.assert_wrong(3, sealed([111, 3, 1, 128, 160, 148, 165, 141, 30, 1]))
        self.assert_wrong(3, sealed([111, 3, 1, *[255] * 5, 127, 1]))
        self.assert_wrong(3, sealed([111, 3, 1, *[128] * 6, 1, 1]))
        self.assert_wrong(3, sealed([111, 3, 1, *[255] * 300, 1, 1]))
        self.assert_wrong(5, sealed([111, 3, 2, 5, 1, *[128] * 6, 1, 1]))
        # The byte for the seats is not read any more, wrong or missing.
        self.assert_wrong(3, [111, 3, 1, *[128] * 6, 1])
        self.assert_wrong(3, [111, 3, 1, *[128] * 6, 1, 256])

    def test_an_amount_is_read_before_it_is_too_great(self):
        self.assert_wrong(9, [111, 3, 1, *[255] * 6])
        self.assert_wrong(103, [111, 3, 1, *[255] * 100])
        self.assert_wrong(13, [111, 3, 1, *[255] * 10, 0, 1])
        self.assert_wrong(13, [111, 3, 1, *[255] * 10, 256, 1])
        self.assert_wrong(13, [111, 3, 1, *[255] * 10, None, 1])

    def test_the_first_wrong_byte_tells(self):
        data = bytes_of(3, [(130, (0, 2)), (5, (1,))])
        for first in range(len(data)):
            for later in range(first, len(data)):
                self.assert_wrong(first, [256 if at in (first, later) else byte for at, byte in enumerate(data)])

    def test_random_changes(self):
        chance = Random(12)
        reached = {"right": 0, "wrong": 0}
        for _ in range(8000):
            seat_count = chance.randrange(2, 9)
            bills = random_bills(chance, seat_count, chance.randrange(4), chance.choice((200, 10 ** 6, 10 ** 12)))
            data = bytes_of(seat_count, bills)[:-1]
            for _ in range(chance.choice((0, 1, 1, 2))):
                at = chance.randrange(len(data) + 1)
                more = chance.choice(([], [0], [1], [127], [128], [255], [chance.randrange(-1, 257)]))
                data = data[:at] + more + data[at + chance.choice((0, 1, 1)):]
            data = sealed(data) if chance.random() < 0.9 else data
            before = list(data)
            found = outcome(data)
            self.assertEqual(data, before)
            if isinstance(found, tuple):
                self.assertEqual(bytes_of(*found), data)
                self.assertIsNone(wrong_offset(data), data)
            else:
                self.assertEqual(found, wrong_offset(data), data)
            reached["right" if isinstance(found, tuple) else "wrong"] += 1
        self.assertGreater(min(reached.values()), 2000, reached)

    def test_what_the_caller_changes_later_is_not_kept(self):
        data = [111, 3, 1, 130, 1, 5, 177]
        evening = decode_evening(data)
        data[3] = 1
        data.clear()
        self.assertEqual(told(evening.bills), [(130, (0, 2))])

    def test_repeated_calls_return_equal_results(self):
        for data in ([111, 3, 1, 130, 1, 5, 177], [111, 3, 1, 130, 1, 5, 178], [111, 3, 1], []):
            self.assertEqual(outcome(data), outcome(data))


if __name__ == "__main__":
    unittest.main()
