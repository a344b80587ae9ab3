import unittest
from random import Random

from oddcents.errors import EmptyGroup, InvalidBill, InvalidEvening, InvalidNumber
from oddcents.evenings import Evening
from oddcents.groups import Fixed, Group, Turns, Until, evening_of

from tables import raised, seat_sets, told

NUMBERS = [*range(40), 1000, 10 ** 18, 10 ** 18 + 1, 10 ** 30]


def there(tree, number):
    """The set of the seats that are there for a bill, by a tree of tuples that tells what a group is made of."""
    kind, *parts = tree
    if kind == "nobody":
        return set()
    if kind == "fixed":
        return set(parts)
    if kind == "turns":
        return there(parts[number % len(parts)], number // len(parts))
    if kind == "until":
        first, border, later = parts
        return there(first, number) if number < border else there(later, number - border)
    one, other = parts
    return there(one, number) | there(other, number) if kind == "union" else there(one, number) - {other}


def group_of(tree):
    """The group of such a tree."""
    kind, *parts = tree
    if kind == "nobody":
        return Group()
    if kind == "fixed":
        return Fixed(*parts)
    if kind == "turns":
        return Turns(*[group_of(part) for part in parts])
    if kind == "until":
        return Until(group_of(parts[0]), parts[1], group_of(parts[2]))
    return group_of(parts[0]) + group_of(parts[1]) if kind == "union" else group_of(parts[0]) - parts[1]


def random_tree(chance, depth):
    kind = chance.choice(("nobody", "fixed", "fixed", "turns", "until", "union", "without")) if depth > 0 else "fixed"
    if kind == "nobody":
        return (kind,)
    if kind == "fixed":
        return (kind, *[chance.randrange(9) for _ in range(chance.randrange(6))])
    one, other = random_tree(chance, depth - 1), random_tree(chance, depth - 1)
    if kind == "turns":
        return (kind, one, other, *[random_tree(chance, depth - 2) for _ in range(chance.randrange(3))])[:1 + depth]
    if kind == "until":
        return (kind, one, chance.randrange(12), other)
    return (kind, one, other) if kind == "union" else (kind, one, chance.randrange(9))


class GroupTests(unittest.TestCase):
    def assert_seats(self, group, *rows):
        """The group has these seats for the bills from 0 on."""
        self.assertEqual([group.seats_for(number) for number in range(len(rows))], list(rows))

    def test_example(self):
        group = Turns(Fixed(0, 1), Fixed(2)) + Fixed(3)
        self.assertEqual([group.seats_for(0), group.seats_for(1), (group - 3).seats_for(1), (group - 3).KIND],
                         [(0, 1, 3), (2, 3), (2,), "without"])

    def test_nobody(self):
        for number in NUMBERS:
            self.assertEqual(Group().seats_for(number), ())

    def test_fixed_seats(self):
        for seats in seat_sets(8):
            for number in (0, 1, 10 ** 18):
                self.assertEqual(Fixed(*seats).seats_for(number), seats)
                self.assertEqual(Fixed(*seats[::-1]).seats_for(number), seats)

    def test_fixed_seats_in_any_order_and_repeatedly(self):
        self.assertEqual(Fixed().seats_for(0), ())
        self.assertEqual(Fixed(3, 1, 2).seats_for(5), (1, 2, 3))
        self.assertEqual(Fixed(7, 0, 7, 0, 0).seats_for(0), (0, 7))
        self.assertEqual(Fixed(2, 2).seats_for(1), (2,))

    def test_fixed_seats_that_no_table_has(self):
        self.assertEqual(Fixed(8, 3, 100, 8).seats_for(0), (3, 8, 100))
        self.assertEqual(Fixed(0, -1, 10 ** 20, -2).seats_for(0), (-2, -1, 0, 10 ** 20))

    def test_turns(self):
        self.assert_seats(Turns(Fixed(4)), (4,), (4,), (4,))
        self.assert_seats(Turns(Fixed(0), Fixed(1), Fixed(2)), (0,), (1,), (2,), (0,), (1,), (2,), (0,))
        self.assert_seats(Turns(Fixed(0), Group()), (0,), (), (0,), ())
        self.assertEqual(Turns(Fixed(0), Fixed(1), Fixed(2)).seats_for(10 ** 18), (1,))

    def test_turns_count_the_bills_of_each_group(self):
        inner = Turns(Fixed(1), Fixed(2))
        self.assert_seats(Turns(Fixed(0), inner), (0,), (1,), (0,), (2,), (0,), (1,), (0,), (2,))
        self.assert_seats(Turns(inner, inner), (1,), (1,), (2,), (2,), (1,), (1,))
        self.assert_seats(Turns(inner, Fixed(0), inner), (1,), (0,), (1,), (2,), (0,), (2,), (1,))
        self.assert_seats(Turns(Until(Fixed(0), 2, Fixed(1)), Fixed(7)), (0,), (7,), (0,), (7,), (1,), (7,), (1,))

    def test_no_turns(self):
        raised(InvalidNumber, Turns)

    def test_until(self):
        group = Until(Fixed(0, 1), 2, Fixed(2))
        self.assert_seats(group, (0, 1), (0, 1), (2,), (2,), (2,))
        self.assertEqual(group.seats_for(10 ** 18), (2,))
        self.assert_seats(Until(Fixed(0), 0, Fixed(1)), (1,), (1,))
        self.assert_seats(Until(Fixed(0), 1, Fixed(1)), (0,), (1,), (1,))
        self.assertEqual(Until(Fixed(0), 10 ** 18, Fixed(1)).seats_for(10 ** 18 - 1), (0,))
        self.assertEqual(Until(Fixed(0), 10 ** 18, Fixed(1)).seats_for(10 ** 18), (1,))

    def test_until_counts_the_later_bills_from_0_again(self):
        turns = Turns(Fixed(0), Fixed(1), Fixed(2))
        self.assert_seats(Until(turns, 2, turns), (0,), (1,), (0,), (1,), (2,), (0,))
        self.assert_seats(Until(Fixed(5), 1, Until(Fixed(6), 1, turns)), (5,), (6,), (0,), (1,), (2,), (0,))
        self.assert_seats(Until(Until(Fixed(5), 1, turns), 3, turns), (5,), (0,), (1,), (0,), (1,), (2,))

    def test_sums(self):
        self.assert_seats(Fixed(0, 2) + Fixed(1, 2), (0, 1, 2), (0, 1, 2))
        self.assert_seats(Fixed(0) + Group(), (0,), (0,))
        self.assert_seats(Group() + Group(), (), ())
        self.assert_seats(Turns(Fixed(0), Fixed(5)) + Turns(Fixed(3), Group(), Fixed(1)),
                          (0, 3), (5,), (0, 1), (3, 5), (0,), (1, 5))

    def test_differences(self):
        self.assert_seats(Fixed(0, 1, 2) - 1, (0, 2), (0, 2))
        self.assert_seats(Fixed(0, 1, 2) - 3, (0, 1, 2))
        self.assert_seats(Fixed(1) - 1, (), ())
        self.assert_seats(Group() - 0, ())
        self.assert_seats(Fixed(1, 2) - 1 - 2, ())
        self.assert_seats(Fixed(1, 2) - 1 - 1, (2,))
        self.assert_seats(Turns(Fixed(0, 1), Fixed(1), Fixed(2)) - 1, (0,), (), (2,), (0,))
        self.assert_seats(Fixed(0, 9, -1) - 9, (-1, 0))
        self.assert_seats(Fixed(0, 9, -1) - -1, (0, 9))

    def test_a_difference_concerns_its_own_group_only(self):
        self.assert_seats((Fixed(0, 1) - 1) + Fixed(1, 2), (0, 1, 2))
        self.assert_seats(Fixed(1, 2) + (Fixed(0, 1) - 1), (0, 1, 2))
        self.assert_seats((Fixed(0, 1) + Fixed(1, 2)) - 1, (0, 2))
        self.assert_seats(Turns(Fixed(0, 1) - 1, Fixed(0, 1)), (0,), (0, 1), (0,))
        one = Fixed(0, 1)
        self.assert_seats((one - 0) + (one - 1), (0, 1))
        self.assert_seats(((one - 0) + one) - 1, (0,))
        self.assert_seats((one - 0 - 1) + (one - 1 - 0), ())

    def test_random_groups_within_groups(self):
        chance = Random(1)
        for _ in range(600):
            tree = random_tree(chance, chance.randrange(6))
            group = group_of(tree)
            for number in NUMBERS[:30:3] + NUMBERS[-4:]:
                self.assertEqual(group.seats_for(number), tuple(sorted(there(tree, number))), (tree, number))

    def test_groups_that_are_nested_very_deeply(self):
        group = Fixed(0)
        for number in range(3000):
            group = (group + Fixed(number % 8)) - (number + 3) % 8
        self.assertEqual(group.seats_for(0), tuple(sorted(there_after(3000))))
        row = Fixed(7)
        for number in range(3000):
            row = Until(Fixed(number % 7), 1, Turns(row))
        self.assertEqual([row.seats_for(number) for number in (0, 1, 2, 2999, 3000, 5000)],
                         [(2999 % 7,), (2998 % 7,), (2997 % 7,), (0,), (7,), (7,)])

    def test_a_group_that_is_part_of_another_one_very_often(self):
        group = Turns(Fixed(0, 1), Fixed(2))
        for _ in range(100):
            group = group + (group - 1)
        self.assertEqual([group.seats_for(0), group.seats_for(1)], [(0, 1), (2,)])
        self.assertEqual((group - 1).seats_for(2), (0,))

    def test_seats_are_an_ascending_tuple_of_different_integers(self):
        for group in (Group(), Fixed(2, 1, 2), Turns(Fixed(5, 4)), Until(Fixed(1), 1, Fixed(0)),
                      Fixed(3, 1) + Fixed(2, 1), Fixed(3, 1, 2) - 1):
            seats = group.seats_for(0)
            self.assertIsInstance(seats, tuple)
            self.assertEqual(list(seats), sorted(set(seats)))
            for seat in seats:
                self.assertIs(seat.__class__, int)


def there_after(times):
    """The seats of the deep sums and differences above."""
    seats = {0}
    for number in range(times):
        seats = (seats | {number % 8}) - {(number + 3) % 8}
    return seats


class KindTests(unittest.TestCase):
    def samples(self):
        return [(Group(), "nobody"), (Fixed(), "fixed"), (Fixed(1, 2), "fixed"), (Turns(Group()), "turns"),
                (Until(Group(), 0, Fixed(1)), "until"), (Group() + Group(), "union"), (Fixed(1) - 1, "without")]

    def test_kinds(self):
        for group, kind in self.samples():
            self.assertEqual(group.KIND, kind)
        self.assertEqual([Group.KIND, Fixed.KIND, Turns.KIND, Until.KIND], ["nobody", "fixed", "turns", "until"])

    def test_kinds_of_all_sums_and_differences(self):
        for one, _ in self.samples():
            for other, _ in self.samples():
                self.assertEqual((one + other).KIND, "union")
                self.assertEqual((one + other - 1).KIND, "without")
            self.assertEqual((one - 0).KIND, "without")
            self.assertEqual((one - 0 + one).KIND, "union")

    def test_all_are_groups(self):
        for group, _ in self.samples():
            self.assertIsInstance(group, Group)
        for kind in (Fixed, Turns, Until):
            self.assertTrue(issubclass(kind, Group))

    def test_each_class_has_the_method_and_the_signs_itself(self):
        for kind in (Group, Fixed, Turns, Until):
            for name in ("KIND", "seats_for", "__add__", "__sub__"):
                self.assertIn(name, vars(kind))


class StayTests(unittest.TestCase):
    def test_signs_do_not_change_groups(self):
        one, other = Turns(Fixed(0, 1), Fixed(2)), Fixed(1, 5)
        before = [one.seats_for(0), one.seats_for(1), other.seats_for(0)]
        both = one + other
        less = both - 1
        self.assertEqual([less.seats_for(0), both.seats_for(0)], [(0, 5), (0, 1, 5)])
        self.assertEqual([one.seats_for(0), one.seats_for(1), other.seats_for(0)], before)
        self.assertEqual([one.KIND, other.KIND, both.KIND], ["turns", "fixed", "union"])

    def test_what_the_caller_changes_later_is_not_kept(self):
        seats, groups = [2, 0], [Fixed(1), Fixed(2)]
        fixed, turns = Fixed(*seats), Turns(*groups)
        seats.append(3)
        groups[0] = Fixed(7)
        self.assertEqual([fixed.seats_for(0), turns.seats_for(0), seats], [(0, 2), (1,), [2, 0, 3]])

    def test_repeated_calls_return_equal_results(self):
        chance = Random(2)
        for _ in range(50):
            group = group_of(random_tree(chance, 4))
            rows = [group.seats_for(number) for number in NUMBERS]
            self.assertEqual([group.seats_for(number) for number in NUMBERS[::-1]], rows[::-1])


class EveningOfTests(unittest.TestCase):
    def assert_invalid(self, kind, index, seat_count, group, *amounts):
        with self.subTest(seat_count=seat_count, amounts=amounts):
            error = raised(kind, lambda: evening_of(seat_count, group, *amounts))
            if index is not None:
                self.assertEqual(error.index, index)

    def test_examples(self):
        evening = evening_of(3, Until(Fixed(0, 1), 1, Fixed(2)), 500, 700)
        self.assertEqual([evening[0].seats, evening[1].seats], [(0, 1), (2,)])
        self.assert_invalid(EmptyGroup, None, 3, Fixed(1) - 1, 500)

    def test_no_amounts(self):
        for seat_count in range(2, 9):
            for group in (Group(), Fixed(100), Fixed(0)):
                evening = evening_of(seat_count, group)
                self.assertIsInstance(evening, Evening)
                self.assertEqual([evening.seat_count, evening.bills], [seat_count, ()])

    def test_all_tables_and_all_fixed_seats(self):
        for seat_count in range(2, 9):
            for seats in seat_sets(seat_count):
                evening = evening_of(seat_count, Fixed(*seats[::-1], *seats), 0, 100, 10 ** 12)
                self.assertEqual(evening.seat_count, seat_count)
                self.assertEqual(told(evening.bills), [(0, seats), (100, seats), (10 ** 12, seats)])

    def test_the_bills_are_numbered_from_0(self):
        group = Until(Turns(Fixed(0), Fixed(1)), 3, Turns(Fixed(2), Fixed(3), Fixed(4))) + Fixed(5)
        evening = evening_of(6, group, 10, 20, 30, 40, 50, 60, 70)
        self.assertEqual(told(evening.bills), [(10, (0, 5)), (20, (1, 5)), (30, (0, 5)), (40, (2, 5)), (50, (3, 5)),
                                               (60, (4, 5)), (70, (2, 5))])

    def test_thirty_bills_and_more(self):
        group = Turns(Fixed(0, 1), Fixed(1))
        evening = evening_of(2, group, *range(30))
        self.assertEqual(told(evening.bills), [(amount, (1,) if amount % 2 == 1 else (0, 1)) for amount in range(30)])
        self.assert_invalid(InvalidEvening, 30, 2, group, *range(31))
        self.assert_invalid(InvalidEvening, 30, 2, group, *range(40))
        self.assert_invalid(InvalidEvening, 3, 2, Until(group, 3, Fixed(2)), *range(40))

    def test_the_number_of_seats(self):
        for seat_count in (-1, 0, 1, 9, 10 ** 20):
            self.assert_invalid(InvalidEvening, -1, seat_count, Fixed(0), 1)
            self.assert_invalid(InvalidEvening, -1, seat_count, Fixed(0))
            # It comes before all that is wrong with the bills.
            self.assert_invalid(InvalidEvening, -1, seat_count, Group(), 1)
            self.assert_invalid(InvalidEvening, -1, seat_count, Fixed(0), -1)
            self.assert_invalid(InvalidEvening, -1, seat_count, Fixed(8), 1)
            self.assert_invalid(InvalidEvening, -1, seat_count, Fixed(0), *range(31))

    def test_nobody_is_there(self):
        for group in (Group(), Fixed(), Fixed(1) - 1, Turns(Group()), Until(Fixed(0), 0, Group()),
                      Until(Fixed(0), 1, Group()), Turns(Fixed(0), Group(), Fixed(1))):
            self.assert_invalid(EmptyGroup, None, 3, group, 5, 6)
        self.assertEqual(len(evening_of(3, Until(Fixed(0), 2, Group()), 5, 6)), 2)
        self.assert_invalid(EmptyGroup, None, 3, Until(Fixed(0), 2, Group()), 5, 6, 7)

    def test_invalid_bills(self):
        self.assert_invalid(InvalidBill, -1, 3, Fixed(0), -1)
        self.assert_invalid(InvalidBill, -1, 3, Fixed(0), 5, 10 ** 12 + 1)
        self.assert_invalid(InvalidBill, 0, 3, Fixed(8), 5)
        self.assert_invalid(InvalidBill, 0, 3, Fixed(-1, 0), 5)
        self.assert_invalid(InvalidBill, 2, 8, Fixed(8, 0, 3), 5)
        self.assert_invalid(InvalidBill, 1, 8, Turns(Fixed(1), Fixed(5, 9, 8)), 5, 5)
        self.assert_invalid(InvalidBill, -1, 3, Fixed(8), -1)

    def test_seats_that_the_table_does_not_have(self):
        self.assert_invalid(InvalidEvening, 0, 3, Fixed(3), 5)
        self.assert_invalid(InvalidEvening, 1, 3, Turns(Fixed(2), Fixed(0, 7)), 5, 6, 7)
        self.assert_invalid(InvalidEvening, 2, 2, Until(Fixed(0), 2, Fixed(2)), 5, 6, 7, 8)

    def test_for_each_bill_in_order(self):
        # The first wrong bill tells, and for one bill nobody comes before an invalid bill.
        self.assert_invalid(EmptyGroup, None, 3, Until(Group(), 1, Fixed(8)), 5, 6)
        self.assert_invalid(InvalidBill, 0, 3, Until(Fixed(8), 1, Group()), 5, 6)
        self.assert_invalid(EmptyGroup, None, 3, Group(), -1)
        self.assert_invalid(EmptyGroup, None, 3, Until(Fixed(0), 1, Group()), 5, -1)
        self.assert_invalid(InvalidBill, -1, 3, Until(Fixed(0), 1, Group()), -1, 5)
        # All of that comes before what is wrong with the evening.
        self.assert_invalid(EmptyGroup, None, 3, Until(Fixed(5), 1, Group()), 5, 6)
        self.assert_invalid(InvalidBill, -1, 3, Fixed(5), 5, -1)
        self.assert_invalid(InvalidBill, -1, 3, Fixed(0), *range(35), -1)
        self.assert_invalid(EmptyGroup, None, 3, Until(Fixed(0), 35, Group()), *range(36))

    def test_random_groups(self):
        chance = Random(3)
        reached = {"evening": 0, "InvalidEvening": 0, "EmptyGroup": 0, "InvalidBill": 0}
        for _ in range(1500):
            tree = random_tree(chance, chance.randrange(4))
            seat_count = chance.randrange(2, 9)
            amounts = [chance.choice((0, 7, 10 ** 12, 10 ** 12 + 1) if chance.random() < 0.1 else (0, 7, 100))
                       for _ in range(chance.choice((0, 1, 2, 3, 31) if chance.random() < 0.3 else (1, 2)))]
            wanted = self.expected(tree, seat_count, amounts)
            try:
                found = told(evening_of(seat_count, group_of(tree), *amounts).bills)
            except (EmptyGroup, InvalidBill, InvalidEvening) as error:
                found = (error.__class__.__name__, getattr(error, "index", None))
            self.assertEqual(found, wanted, (tree, seat_count, amounts))
            reached["evening" if isinstance(found, list) else found[0]] += 1
        self.assertGreater(min(reached.values()), 40, reached)

    def expected(self, tree, seat_count, amounts):
        """What evening_of gives: the bills, or the name and the index of the error."""
        bills = []
        for number, amount in enumerate(amounts):
            seats = sorted(there(tree, number))
            if not seats:
                return "EmptyGroup", None
            if amount > 10 ** 12:
                return "InvalidBill", -1
            if seats[-1] > 7:
                return "InvalidBill", len(seats) - 1
            bills.append((amount, tuple(seats)))
        for index, (_, seats) in enumerate(bills):
            if seats[-1] >= seat_count:
                return "InvalidEvening", index
        return ("InvalidEvening", 30) if len(bills) > 30 else bills

    def test_repeated_calls_return_equal_results(self):
        group = Turns(Fixed(0, 1), Fixed(2)) + Fixed(3)
        amounts = [5, 6, 7]
        first = evening_of(4, group, *amounts)
        raised(InvalidEvening, lambda: evening_of(3, group, *amounts))
        raised(InvalidBill, lambda: evening_of(4, group, 5, -1))
        self.assertEqual(told(evening_of(4, group, *amounts).bills), told(first.bills))
        self.assertEqual(amounts, [5, 6, 7])


if __name__ == "__main__":
    unittest.main()
