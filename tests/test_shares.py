import unittest

from oddcents.errors import OtherTable, UnknownSeat
from oddcents.shares import Shares

from tables import raised


class Lookalike:
    """What is not shares, although it has the same numbers."""

    def __init__(self, *cents):
        self.cents = cents
        self._cents = cents


class ShareTests(unittest.TestCase):
    def test_examples(self):
        both = Shares(3, 4) + Shares(1, 5) * 2
        self.assertEqual([both.cents, both[1], abs(both), (-both).whole, len(both)], [(5, 14), 14, 9, -19, 2])
        raised(UnknownSeat, lambda: Shares(3, 4)[2])

    def test_cents_and_whole(self):
        for cents in [(), (0,), (7, -9, 2), (1,) * 12, (10 ** 60, -10 ** 59)]:
            with self.subTest(cents=cents):
                self.assertEqual(Shares(*cents).cents, cents)
                self.assertIsInstance(Shares(*cents).cents, tuple)
                self.assertEqual(Shares(*cents).whole, sum(cents))
                self.assertEqual(len(Shares(*cents)), len(cents))

    def test_cents_of_a_seat(self):
        shares = Shares(5, -7, 10 ** 40)
        self.assertEqual([shares[0], shares[1], shares[2]], [5, -7, 10 ** 40])

    def test_seats_that_are_not_there(self):
        for seat in (-1, -2, -3, -4, 3, 4, 10 ** 30, -10 ** 30):
            with self.subTest(seat=seat):
                raised(UnknownSeat, lambda: Shares(5, 6, 7)[seat])
        for seat in (-1, 0, 1):
            with self.subTest(seat=seat):
                raised(UnknownSeat, lambda: Shares()[seat])

    def test_sum_and_difference(self):
        one = Shares(1, -2, 10 ** 50)
        other = Shares(10, 20, 30)
        self.assertEqual((one + other).cents, (11, 18, 10 ** 50 + 30))
        self.assertEqual((one - other).cents, (-9, -22, 10 ** 50 - 30))
        self.assertEqual((other - one).cents, (9, 22, 30 - 10 ** 50))
        self.assertEqual((Shares() + Shares()).cents, ())
        self.assertEqual((Shares() - Shares()).cents, ())

    def test_sum_and_difference_of_different_tables(self):
        pairs = [(Shares(1, 2), Shares(1, 2, 3)), (Shares(1, 2, 3), Shares(1, 2)), (Shares(), Shares(0)),
                 (Shares(0), Shares())]
        for one, other in pairs:
            with self.subTest(one=one.cents, other=other.cents):
                raised(OtherTable, lambda: one + other)
                raised(OtherTable, lambda: one - other)

    def test_product(self):
        shares = Shares(3, -4, 0)
        self.assertEqual((shares * 5).cents, (15, -20, 0))
        self.assertEqual((shares * 1).cents, (3, -4, 0))
        self.assertEqual((shares * 0).cents, (0, 0, 0))
        self.assertEqual((shares * -1).cents, (-3, 4, 0))
        self.assertEqual((shares * -2).cents, (-6, 8, 0))
        self.assertEqual((shares * 10 ** 40).cents, (3 * 10 ** 40, -4 * 10 ** 40, 0))
        self.assertEqual((Shares() * 3).cents, ())

    def test_negative(self):
        self.assertEqual((-Shares(3, -4, 0)).cents, (-3, 4, 0))
        self.assertEqual((-Shares()).cents, ())

    def test_spread(self):
        for cents, spread in [((), 0), ((5,), 0), ((-5,), 0), ((3, 3), 0), ((1, 9, 4), 8), ((9, 1), 8), ((-5, -2), 3),
                              ((-5, 2), 7), ((10 ** 50, 1), 10 ** 50 - 1)]:
            with self.subTest(cents=cents):
                self.assertEqual(abs(Shares(*cents)), spread)

    def test_without_seats(self):
        self.assertEqual([abs(Shares()), Shares().whole, len(Shares()), Shares().cents], [0, 0, 0, ()])

    def test_equal_shares(self):
        for cents in [(), (0,), (1, -2, 3), (10 ** 40, 0)]:
            with self.subTest(cents=cents):
                self.assertTrue(Shares(*cents) == Shares(*cents))
                self.assertFalse(Shares(*cents) != Shares(*cents))
        self.assertTrue(Shares(1, 2) + Shares(2, 1) == Shares(3, 3))

    def test_other_shares(self):
        for other in [Shares(), Shares(1), Shares(2, 1), Shares(1, 2, 0), Shares(1, 3), Shares(3, 0)]:
            with self.subTest(other=other.cents):
                self.assertFalse(Shares(1, 2) == other)
                self.assertTrue(Shares(1, 2) != other)

    def test_what_is_not_shares(self):
        for other in [(1, 2), [1, 2], {1, 2}, 3, 0, None, "(1, 2)", object(), Shares, Lookalike(1, 2)]:
            with self.subTest(other=other):
                self.assertFalse(Shares(1, 2) == other)
                self.assertFalse(other == Shares(1, 2))
                self.assertTrue(Shares(1, 2) != other)
        for other in [(), [], 0, None, ""]:
            with self.subTest(other=other):
                self.assertFalse(Shares() == other)

    def test_shares_never_change(self):
        one = Shares(1, 2)
        other = Shares(30, 40)
        same = one
        results = [one + other, one - other, one * 3, -one, abs(one), one.whole, one[0], one == other]
        one += other
        one -= Shares(0, 1)
        one *= 2
        self.assertEqual(one.cents, (62, 82))
        self.assertEqual([same.cents, other.cents], [(1, 2), (30, 40)])
        self.assertEqual([part.cents for part in results[:4]], [(31, 42), (-29, -38), (3, 6), (-1, -2)])

    def test_shares_are_not_assigned_to(self):
        shares = Shares(1, 2)
        with self.assertRaises((AttributeError, TypeError)):
            shares.cents = (3, 4)
        with self.assertRaises((AttributeError, TypeError)):
            shares.whole = 7
        with self.assertRaises((AttributeError, TypeError)):
            shares[0] = 3
        self.assertEqual([shares.cents, shares.whole], [(1, 2), 3])

    def test_what_the_caller_changes_later_is_not_kept(self):
        cents = [1, 2]
        shares = Shares(*cents)
        cents[0] = 100
        self.assertEqual(shares.cents, (1, 2))

    def test_errors_change_nothing(self):
        one = Shares(1, 2)
        other = Shares(3)
        raised(OtherTable, lambda: one + other)
        raised(OtherTable, lambda: one - other)
        raised(UnknownSeat, lambda: one[5])
        self.assertEqual([one.cents, other.cents], [(1, 2), (3,)])

    def test_all_numbers_are_plain_integers(self):
        shares = Shares(3, 4) + Shares(1, 5) * 2 - Shares(1, 1)
        for number in [*shares.cents, shares.whole, shares[0], abs(shares), len(shares), *(-shares).cents]:
            self.assertIs(number.__class__, int)
        self.assertIs(abs(Shares()).__class__, int)
        self.assertIs(Shares().whole.__class__, int)


if __name__ == "__main__":
    unittest.main()
