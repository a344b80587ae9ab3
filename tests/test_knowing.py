import unittest
from itertools import product

from oddcents.errors import InvalidEvening, TooManyBills
from oddcents.evenings import Bill, Evening
from oddcents.knowing import known_after, reset, telling

from tables import made, many_evenings, paid, raised, sample_evenings, told


def example():
    return Evening(3, Bill(100, 0, 1, 2), Bill(11, 0, 2))


def moves_of(seat_count, bills):
    """For each bill the mark after it, from each mark on."""
    return [[paid(seat_count, amount, seats, mark)[1] for mark in range(seat_count)] for amount, seats in bills]


def known(seat_count, bills):
    """After how many bills only one mark is left; None as soon as an evening begins with the marks of a former one."""
    moves = moves_of(seat_count, bills)
    marks = set(range(seat_count))
    before = []
    count = 0
    while marks not in before:
        before.append(marks)
        for move in moves:
            marks = {move[mark] for mark in marks}
            count += 1
            if len(marks) == 1:
                return count
    return None


class KnownAfterTests(unittest.TestCase):
    def test_example(self):
        self.assertEqual([known_after(example()), known_after(Evening.together(3, 100))], [4, None])

    def test_all_marks(self):
        found = {}
        for seat_count, bills in [*sample_evenings(), *many_evenings(81, 40, 6)]:
            expected = known(seat_count, bills)
            found[expected] = True
            with self.subTest(seat_count=seat_count, bills=bills):
                self.assertEqual(known_after(made(seat_count, bills)), expected)
        self.assertIn(None, found)
        self.assertGreater(len(found), 8)

    def test_without_bills(self):
        for seat_count in range(2, 9):
            self.assertIsNone(known_after(Evening(seat_count)))

    def test_one_bill(self):
        for seat_count in range(2, 9):
            for amount in (0, 1, seat_count - 1, seat_count):
                self.assertIsNone(known_after(Evening.together(seat_count, amount)))
            for there in range(1, seat_count + 1):
                # One who is there alone pays no odd cent, and two or more move the mark in turns.
                self.assertIsNone(known_after(Evening(seat_count, Bill(1, *range(there)))))

    def test_one_mark_goes_with_each_evening(self):
        for seat_count in range(3, 9):
            bills = [(seat_count - 2, tuple(range(seat_count))), (1, tuple(range(seat_count - 1)))]
            self.assertEqual(known(seat_count, bills), 2 * (seat_count - 1))
            self.assertEqual(known_after(made(seat_count, bills)), 2 * (seat_count - 1))

    def test_in_the_midst_of_an_evening(self):
        bills = [(1, (0, 1)), (1, (0, 2)), (3, (2,)), (2, (0, 1, 2))]
        self.assertEqual(known_after(made(3, bills)), 2)
        self.assertEqual(known_after(made(3, [(0, (0, 1, 2))] * 28 + bills[:2])), 30)
        self.assertEqual(known_after(made(3, [(0, (0, 1, 2))] * 27 + bills[:3])), 29)

    def test_what_does_not_move_the_mark_never_tells_it(self):
        self.assertIsNone(known_after(Evening(4, Bill(7, 2), Bill(4, 0, 1), Bill(0, 3), Bill(9, 0, 1, 2))))

    def test_the_result_is_that_of_the_first_bill_after_which_it_is_known(self):
        for seat_count, bills in many_evenings(82, 10, 5):
            result = known_after(made(seat_count, bills))
            if result is not None:
                moves = moves_of(seat_count, bills)
                walked = [list(range(seat_count))]
                for number in range(result):
                    walked.append([moves[number % len(bills)][mark] for mark in walked[-1]])
                self.assertEqual(len(set(walked[result])), 1)
                self.assertGreater(len(set(walked[result - 1])), 1)


def first_reset_of_all_lists(seat_count, bills):
    """The first list after which one mark is left, of all lists that are not longer than a shortest one can be."""
    moves = moves_of(seat_count, bills)
    # Bills keep the order of the marks round the table: with n of them, a shortest list has at most (n - 1) ** 2 bills.
    for length in range((seat_count - 1) ** 2 + 1):
        for indexes in product(range(len(bills)), repeat=length):
            marks = set(range(seat_count))
            for index in indexes:
                marks = {moves[index][mark] for mark in marks}
            if len(marks) == 1:
                return list(indexes)
    return None


def first_reset_of_all_sets(seat_count, bills):
    """The same, by how many bills are needed from each set of marks on."""
    moves = moves_of(seat_count, bills)
    behind = {}
    for marks in product((False, True), repeat=seat_count):
        there = frozenset(mark for mark in range(seat_count) if marks[mark])
        behind[there] = [frozenset(move[mark] for mark in there) for move in moves]
    needed = {marks: 0 for marks in behind if len(marks) == 1}
    length = 0
    while length in needed.values():
        length += 1
        nearer = [marks for marks in behind if marks not in needed and any(to in needed for to in behind[marks])]
        needed.update({marks: length for marks in nearer})
    marks = frozenset(range(seat_count))
    if marks not in needed:
        return None
    indexes = []
    while needed[marks] > 0:
        index = min(index for index, to in enumerate(behind[marks]) if needed.get(to) == needed[marks] - 1)
        indexes.append(index)
        marks = behind[marks][index]
    return indexes


class ResetTests(unittest.TestCase):
    def check(self, seat_count, bills, expected):
        with self.subTest(seat_count=seat_count, bills=bills):
            self.assertEqual(reset(seat_count, *made(seat_count, bills).bills), expected)

    def test_example(self):
        both = (Bill(100, 0, 1, 2), Bill(11, 0, 2))
        self.assertEqual([reset(3, both[0], both[1]), reset(3, both[0])], [[1, 0, 1], None])

    def test_all_lists(self):
        for seat_count, bills in [*sample_evenings(), *many_evenings(83, 60, 6)]:
            if seat_count < 4 or (seat_count == 4 and len(bills) < 3):
                self.check(seat_count, bills, first_reset_of_all_lists(seat_count, bills))

    def test_all_sets_of_marks(self):
        lengths = {}
        for seat_count, bills in [*sample_evenings(), *many_evenings(84, 25, 6)]:
            expected = first_reset_of_all_sets(seat_count, bills)
            lengths[None if expected is None else len(expected)] = True
            self.check(seat_count, bills, expected)
        self.assertIn(None, lengths)
        self.assertGreater(len(lengths), 6)

    def test_one_seat_is_away_now_and_then(self):
        for seat_count in range(3, 9):
            everybody = tuple(range(seat_count))
            for away in everybody:
                others = everybody[:away] + everybody[away + 1:]
                self.check(seat_count, [(1, everybody), (1, others)],
                           first_reset_of_all_sets(seat_count, [(1, everybody), (1, others)]))
        # One mark goes with each bill of the others; between these the marks go round the table, all but once.
        everybody = Bill(1, *range(8))
        others = Bill(1, 0, 2, 3, 4, 5, 6, 7)
        self.assertEqual(reset(8, everybody, others), [1, 0, 0, 0, 0, 0, 0] * 6 + [1])

    def test_of_several_lists_the_first_one(self):
        # Two bills that do the same: the first one is listed.
        both = (Bill(11, 0, 2), Bill(100, 0, 1, 2), Bill(13, 0, 2), Bill(103, 0, 1, 2))
        self.assertEqual(reset(3, *both), [0, 1, 0])
        self.assertEqual(reset(3, *both[::-1]), [1, 0, 1])
        # Either of the lists [0, 1] and [1, 0] resets the mark.
        self.assertEqual(reset(4, Bill(1, 0, 1), Bill(1, 2, 3)), [0, 1])
        self.assertEqual(reset(4, Bill(1, 2, 3), Bill(1, 0, 1)), [0, 1])

    def test_none(self):
        for seat_count in range(2, 9):
            everybody = range(seat_count)
            self.assertIsNone(reset(seat_count))
            self.assertIsNone(reset(seat_count, *[Bill(amount, *everybody) for amount in range(1, 7)]))
            self.assertIsNone(reset(seat_count, Bill(0, *everybody), Bill(7, 0), Bill(2, 0, 1)))

    def test_the_list_is_new(self):
        bills = (Bill(100, 0, 1, 2), Bill(11, 0, 2))
        for part in (reset, telling):
            first = part(3, *bills)
            same = part(3, *bills)
            first.append(5)
            self.assertEqual(part(3, *bills), same)
        self.assertEqual(told(bills), [(100, (0, 1, 2)), (11, (0, 2))])


def tells(seat_count, bills, indexes):
    """Whether all who have seen the same shares know the same mark."""
    seen = {}
    for mark in range(seat_count):
        shares = []
        for index in indexes:
            cents, mark = paid(seat_count, *bills[index], mark)
            shares.append(cents)
        seen.setdefault(tuple(shares), set()).add(mark)
    return all(len(marks) == 1 for marks in seen.values())


def first_telling(seat_count, bills, most):
    for length in range(most + 1):
        for indexes in product(range(len(bills)), repeat=length):
            if tells(seat_count, bills, indexes):
                return list(indexes)
    return None


class TellingTests(unittest.TestCase):
    def test_example(self):
        self.assertEqual(telling(3, Bill(100, 0, 1, 2), Bill(11, 0, 2)), [0])

    def test_all_lists(self):
        found = []
        for seat_count, bills in [*sample_evenings(), *many_evenings(85, 40, 6), *many_evenings(86, 30, 2)]:
            with self.subTest(seat_count=seat_count, bills=bills):
                expected = first_telling(seat_count, bills, 3)
                found.append(expected)
                self.assertEqual(telling(seat_count, *made(seat_count, bills).bills), expected)
        for expected in (None, [0], [1], [2]):
            self.assertIn(expected, found)

    def test_longer_lists_without_odd_cents(self):
        for seat_count in (2, 3, 4):
            bills = [(0, (0, 1)), (4, (0, 1)), (9, (1,))]
            self.assertIsNone(first_telling(seat_count, bills, 6))
            self.assertIsNone(telling(seat_count, *made(seat_count, bills).bills))

    def test_the_first_bill_with_odd_cents(self):
        evens = [Bill(2, 0, 1), Bill(5, 1), Bill(0, 0, 1)]
        for seat_count in range(2, 9):
            self.assertEqual(telling(seat_count, *evens, Bill(1, 0, 1), Bill(3, 0, 1)), [3])
            self.assertEqual(telling(seat_count, Bill(seat_count - 1, *range(seat_count)), *evens), [0])
            self.assertEqual(telling(seat_count, *evens, *evens[:2], Bill(1, 0, seat_count - 1)), [5])

    def test_none(self):
        for seat_count in range(2, 9):
            self.assertIsNone(telling(seat_count))
            self.assertIsNone(telling(seat_count, Bill(0, 0, 1)))
            self.assertIsNone(telling(seat_count, Bill(seat_count, *range(seat_count)), Bill(7, 1)))


class ListedBillsTests(unittest.TestCase):
    def assert_invalid(self, index, part, seat_count, *bills):
        with self.subTest(part=part, seat_count=seat_count, bills=told(bills)):
            self.assertEqual(raised(InvalidEvening, lambda: part(seat_count, *bills)).index, index)

    def test_six_bills(self):
        bills = [Bill(2, 0, 1), Bill(7, 2), Bill(0, 0, 1, 2), Bill(3, 0, 1, 2), Bill(11, 0, 2), Bill(100, 0, 1, 2)]
        self.assertEqual(reset(3, *bills), [4, 5, 4])
        self.assertEqual(telling(3, *bills), [4])

    def test_seven_bills_and_more(self):
        for part in (reset, telling):
            for number in (7, 8, 29, 30):
                with self.subTest(part=part, number=number):
                    raised(TooManyBills, lambda: part(2, *[Bill(1, 0, 1)] * number))

    def test_invalid_evenings(self):
        for part in (reset, telling):
            for seat_count in (-1, 0, 1, 9, 10 ** 20):
                self.assert_invalid(-1, part, seat_count)
                self.assert_invalid(-1, part, seat_count, Bill(1, 0, 7))
            self.assert_invalid(0, part, 3, Bill(1, 3))
            self.assert_invalid(1, part, 3, Bill(1, 0, 2), Bill(1, 0, 3), Bill(1, 7))
            self.assert_invalid(30, part, 3, *[Bill(1, 0, 2)] * 31)

    def test_invalid_evenings_come_before_too_many_bills(self):
        fine = [Bill(1, 0, 1)]
        for part in (reset, telling):
            self.assert_invalid(-1, part, 1, *fine * 7)
            self.assert_invalid(-1, part, 9, *fine * 31)
            self.assert_invalid(6, part, 2, *fine * 6, Bill(1, 2))
            self.assert_invalid(0, part, 2, Bill(1, 2), *fine * 6)
            self.assert_invalid(29, part, 2, *fine * 29, Bill(1, 0, 2))
            self.assert_invalid(30, part, 2, *fine * 31)


if __name__ == "__main__":
    unittest.main()
