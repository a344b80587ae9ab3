import unittest

from oddcents import errors
from oddcents.errors import CentError

PLAIN = ["InvalidMark", "UnknownSeat", "OtherTable", "InvalidNumber", "TooManyBills", "Contradiction", "NotBalanced",
         "EmptyGroup"]
WITH_ATTRIBUTES = {
    "InvalidBill": {"index": 3},
    "InvalidEvening": {"index": -1},
    "InvalidOperation": {"index": 0},
    "InvalidText": {"row": 4, "word": 2},
    "InvalidReceipt": {"row": 5},
    "DecodeError": {"offset": 6},
}


def all_classes():
    return [getattr(errors, name) for name in [*PLAIN, *WITH_ATTRIBUTES]]


class ErrorTests(unittest.TestCase):
    def test_the_base_class_is_a_value_error(self):
        self.assertTrue(issubclass(CentError, ValueError))

    def test_each_class_is_a_cent_error(self):
        for kind in all_classes():
            with self.subTest(kind=kind):
                self.assertTrue(issubclass(kind, CentError))
                self.assertIsNot(kind, CentError)

    def test_no_class_is_a_subclass_of_another_one(self):
        for kind in all_classes():
            for other in all_classes():
                if kind.__name__ != other.__name__:
                    with self.subTest(kind=kind, other=other):
                        self.assertFalse(issubclass(kind, other))

    def test_each_class_is_defined_in_errors(self):
        for kind in [CentError, *all_classes()]:
            self.assertEqual(kind.__module__, "oddcents.errors")

    def test_attributes_are_given_as_keywords_and_can_be_read(self):
        for name, attributes in WITH_ATTRIBUTES.items():
            with self.subTest(name=name):
                error = getattr(errors, name)(**attributes)
                self.assertEqual({word: getattr(error, word) for word in attributes}, attributes)

    def test_errors_can_be_raised_and_caught_by_all_their_classes(self):
        for name in [*PLAIN, *WITH_ATTRIBUTES]:
            for base in (getattr(errors, name), CentError, ValueError):
                with self.subTest(name=name, base=base):
                    with self.assertRaises(base):
                        raise getattr(errors, name)(**WITH_ATTRIBUTES.get(name, {}))


if __name__ == "__main__":
    unittest.main()
