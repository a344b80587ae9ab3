import unittest
from itertools import product
from random import Random

from oddcents.errors import InvalidNumber, NotBalanced, UnknownSeat
from oddcents.settling import balance_after, fewest_payments, payments
from oddcents.shares import Shares

from tables import raised


def partings(seats):
    """All ways of parting a list of seats into groups."""
    if not seats:
        return [[]]
    ways = []
    for groups in partings(seats[1:]):
        ways.append([[seats[0]], *groups])
        ways += [[*groups[:at], [seats[0], *groups[at]], *groups[at + 1:]] for at in range(len(groups))]
    return ways


def fewest_by_groups(cents):
    """Each group that comes to 0 takes one payment less than it has seats; seats with 0 are groups of their own."""
    fitting = [groups for groups in partings(list(range(len(cents))))
               if all(sum(cents[seat] for seat in group) == 0 for group in groups)]
    return min(sum(len(group) - 1 for group in groups) for groups in fitting)


def fewest_by_trying(cents):
    """The same for small balances: after how many payments, each of any amount that may help, nobody owes anything."""
    reached = [tuple(cents)]
    number = 0
    while not any(set(state) <= {0} for state in reached):
        number += 1
        later = {}
        for state in reached:
            for giver, taker in product(range(len(state)), repeat=2):
                for paid in range(1, 1 + sum(more for more in state if more > 0)):
                    if giver != taker:
                        after = list(state)
                        after[giver] += paid
                        after[taker] -= paid
                        later[tuple(after)] = True
        reached = list(later)
    return number


def settled(cents, given):
    """The numbers of a balance after payments."""
    due = list(cents)
    for giver, taker, paid in given:
        due[giver] += paid
        due[taker] -= paid
    return due


def random_balances(seed, number):
    chance = Random(seed)
    balances = []
    for _ in range(number):
        most = chance.choice((1, 2, 3, 6, 20, 10 ** 20))
        cents = [chance.randint(-most, most) for _ in range(chance.randint(0, 7))]
        balances.append((*cents, -sum(cents)))
    return balances


class PaymentTests(unittest.TestCase):
    def check(self, cents):
        with self.subTest(cents=cents):
            balance = Shares(*cents)
            given = payments(balance)
            self.assertIsInstance(given, list)
            for payment in given:
                self.assertIsInstance(payment, tuple)
                giver, taker, paid = payment
                self.assertIn(giver, range(len(cents)))
                self.assertIn(taker, range(len(cents)))
                self.assertNotEqual(giver, taker)
                self.assertIs(paid.__class__, int)
                self.assertGreater(paid, 0)
            self.assertEqual(settled(cents, given), [0] * len(cents))
            self.assertEqual(len(given), fewest_payments(balance))
            self.assertEqual(balance.cents, tuple(cents))
            return len(given)

    def test_examples(self):
        self.assertEqual(sorted(payments(Shares(300, -100, -200))), [(1, 0, 100), (2, 0, 200)])
        raised(NotBalanced, lambda: payments(Shares(300, -100)))
        self.assertEqual(fewest_payments(Shares(5, -5, 7, -3, -4)), 3)

    def test_all_small_balances(self):
        for seats, most in [(1, 0), (2, 5), (3, 4), (4, 3), (5, 2)]:
            for cents in product(range(-most, most + 1), repeat=seats):
                if sum(cents) == 0:
                    self.assertEqual(self.check(cents), fewest_by_groups(cents))

    def test_random_balances(self):
        for cents in random_balances(101, 120):
            self.assertEqual(self.check(cents), fewest_by_groups(cents))

    def test_payments_of_all_amounts(self):
        for seats, most in [(2, 3), (3, 3), (4, 2)]:
            for cents in product(range(-most, most + 1), repeat=seats):
                if sum(cents) == 0:
                    self.assertEqual(fewest_payments(Shares(*cents)), fewest_by_trying(cents), cents)

    def test_eight_seats(self):
        for cents, number in [((0,) * 8, 0), ((1, -1) * 4, 4), ((1, 2, 4, 8, 16, 32, 64, -127), 7),
                              ((127, -1, -2, -4, -8, -16, -32, -64), 7), ((5, -5, 7, -3, -4, 1, -3, 2), 5),
                              ((3, 3, 3, -9, 5, 5, -4, -6), 6), ((6, -1, -2, -3, 9, -4, -5, 0), 5),
                              ((10, -7, -3, 8, -6, -2, 1, -1), 5)]:
            self.assertEqual(fewest_by_groups(cents), number)
            self.assertEqual(self.check(cents), number)

    def test_groups_that_paying_the_greatest_debts_first_does_not_find(self):
        self.assertEqual(self.check((10, 6, -4, -6, -6)), 3)
        self.assertEqual(self.check((9, 8, -5, -4, -3, -5)), 4)
        self.assertEqual(self.check((7, 5, 4, -6, -6, -4)), 4)

    def test_empty_balances(self):
        for seats in range(9):
            self.assertEqual(payments(Shares(*[0] * seats)), [])
            self.assertEqual(fewest_payments(Shares(*[0] * seats)), 0)

    def test_payments_of_any_number_of_cents(self):
        huge = 10 ** 40
        self.assertEqual(payments(Shares(huge, -huge)), [(1, 0, huge)])
        self.assertEqual(payments(Shares(-10 ** 15 - 1, 0, 10 ** 15 + 1)), [(0, 2, 10 ** 15 + 1)])
        self.assertEqual(self.check((huge, -1, 1 - huge)), 2)

    def test_nine_seats_and_more(self):
        for part in (payments, fewest_payments):
            for seats in (9, 10, 30):
                with self.subTest(part=part, seats=seats):
                    raised(InvalidNumber, lambda: part(Shares(*[0] * seats)))
                    raised(InvalidNumber, lambda: part(Shares(1, -1, *[0] * (seats - 2))))

    def test_balances_that_do_not_come_to_nothing(self):
        for part in (payments, fewest_payments):
            for cents in [(1,), (-1,), (0, 1), (5, -4), (300, -100), (1, 1, 1, 1, 1, 1, 1, -6),
                          (10 ** 40, 1 - 10 ** 40)]:
                with self.subTest(part=part, cents=cents):
                    raised(NotBalanced, lambda: part(Shares(*cents)))

    def test_the_number_of_seats_comes_first(self):
        for part in (payments, fewest_payments):
            raised(InvalidNumber, lambda: part(Shares(*[1] * 9)))

    def test_the_list_is_new(self):
        balance = Shares(300, -100, -200)
        given = payments(balance)
        same = payments(balance)
        self.assertEqual(given, same)
        given.clear()
        self.assertEqual(payments(balance), same)
        self.assertEqual(balance.cents, (300, -100, -200))

    def test_the_payments_settle_the_balance(self):
        for cents in random_balances(102, 40):
            if max(cents) < 10 ** 15:
                balance = Shares(*cents)
                self.assertEqual(balance_after(balance, payments(balance)), Shares(*[0] * len(cents)))


class BalanceAfterTests(unittest.TestCase):
    def test_example(self):
        self.assertEqual(balance_after(Shares(300, -100, -200), [(1, 0, 100)]).cents, (200, 0, -200))

    def test_rows_of_payments(self):
        chance = Random(103)
        for seats in (2, 3, 8, 12):
            for number in (0, 1, 2, 20):
                cents = [chance.randint(-1000, 1000) for _ in range(seats)]
                given = [(*chance.sample(range(seats), 2), chance.choice((1, 77, 10 ** 15))) for _ in range(number)]
                kept = list(given)
                balance = Shares(*cents)
                after = balance_after(balance, given)
                self.assertIsInstance(after, Shares)
                self.assertEqual(list(after.cents), settled(cents, given))
                self.assertEqual([balance.cents, given], [tuple(cents), kept])

    def test_no_payments(self):
        for cents in [(), (5,), (1, 2, 3)]:
            self.assertEqual(balance_after(Shares(*cents), []), Shares(*cents))

    def test_the_limits_of_the_cents(self):
        self.assertEqual(balance_after(Shares(0, 0), [(0, 1, 1)]).cents, (1, -1))
        self.assertEqual(balance_after(Shares(0, 0), [(1, 0, 10 ** 15)]).cents, (-10 ** 15, 10 ** 15))
        for cents in (-10 ** 20, -1, 0, 10 ** 15 + 1, 10 ** 20):
            with self.subTest(cents=cents):
                raised(InvalidNumber, lambda: balance_after(Shares(0, 0), [(0, 1, cents)]))

    def test_seats_that_pay_themselves(self):
        for seat in range(3):
            raised(InvalidNumber, lambda: balance_after(Shares(0, 0, 0), [(seat, seat, 5)]))

    def test_seats_that_are_not_there(self):
        for seats in (1, 2, 3, 8):
            for seat in (-seats, -1, seats, seats + 1, 10 ** 20):
                with self.subTest(seats=seats, seat=seat):
                    raised(UnknownSeat, lambda: balance_after(Shares(*[0] * seats), [(seat, 0, 5)]))
                    raised(UnknownSeat, lambda: balance_after(Shares(*[0] * seats), [(0, seat, 5)]))
        raised(UnknownSeat, lambda: balance_after(Shares(), [(0, 1, 5)]))

    def test_seats_come_before_numbers(self):
        for giver, taker in [(-1, 0), (3, 0), (0, 3), (-1, -1), (3, 3)]:
            for cents in (0, 5, 10 ** 15 + 1):
                raised(UnknownSeat, lambda: balance_after(Shares(0, 0, 0), [(giver, taker, cents)]))

    def test_payments_are_checked_in_order(self):
        fine, same, unknown, nothing = (0, 1, 5), (1, 1, 5), (0, 3, 5), (0, 1, 0)
        for given, kind in [([fine, same, unknown], InvalidNumber), ([fine, unknown, same], UnknownSeat),
                            ([nothing, unknown], InvalidNumber), ([unknown, nothing], UnknownSeat),
                            ([fine, fine, fine, nothing], InvalidNumber)]:
            balance = Shares(1, 2, 3)
            with self.subTest(given=given):
                raised(kind, lambda: balance_after(balance, given))
                self.assertEqual(balance.cents, (1, 2, 3))


if __name__ == "__main__":
    unittest.main()
