"""What the interface lists: each name in its own file, and each method in the body of its own class."""

import importlib
import inspect
import unittest

from oddcents.errors import CentError
from oddcents.evenings import Bill, Evening

# The functions of each file with their parameters.
FUNCTIONS = {
    "evenings": {"repeated": "(evening, mark, times)", "long_run": "(evening, mark)"},
    "parting": {"widest_gap": "(evening, seat, times)", "best_mark": "(evening, seat, times)",
                "fairest_order": "(evening, mark)", "first_difference": "(one, other)"},
    "knowing": {"known_after": "(evening)", "reset": "(seat_count, *bills)", "telling": "(seat_count, *bills)"},
    "settling": {"payments": "(balance)", "fewest_payments": "(balance)", "balance_after": "(balance, given)"},
    "groups": {"evening_of": "(seat_count, group, *amounts)"},
    "texts": {"format_evening": "(evening)", "parse_evening": "(text)"},
    "receipts": {"receipt": "(evening, mark)", "parse_receipt": "(text)"},
    "codec": {"encode_evening": "(evening)", "decode_evening": "(data)"},
}

# The classes of each file with the parameters of an object, what stands in their body, and which of it are properties.
CLASSES = {
    "shares": {"Shares": ("(*cents)", "cents whole __getitem__ __len__ __eq__ __add__ __sub__ __mul__ __neg__ __abs__",
                          "cents whole")},
    "evenings": {
        "Bill": ("(amount, *seats)", "MAX_SEATS amount seats odd_cents __contains__", "amount seats odd_cents"),
        "Evening": ("(seat_count, *bills)", "MAX_BILLS together seat_count bills __call__ __getitem__ __len__ __bool__"
                    " __add__ __mul__", "seat_count bills")},
    "knowing": {"MarkObserver": ("(evening)", "see possible_marks records", "possible_marks records")},
    "ledger": {
        "Ledger": ("(seat_count, *, mark=0)", "balance mark_now history lay hand move settle undo redo apply_all"
                   " replay", "balance mark_now history"),
        "Trial": ("(ledger)", "keep __enter__ __exit__", "")},
    "groups": {
        "Group": ("()", "KIND seats_for __add__ __sub__", ""),
        "Fixed": ("(*seats)", "KIND seats_for __add__ __sub__", ""),
        "Turns": ("(*groups)", "KIND seats_for __add__ __sub__", ""),
        "Until": ("(first, number, later)", "KIND seats_for __add__ __sub__", "")},
}


def module(name):
    return importlib.import_module(f"oddcents.{name}")


class InterfaceTests(unittest.TestCase):
    def test_functions(self):
        for file, functions in FUNCTIONS.items():
            for name, parameters in functions.items():
                with self.subTest(file=file, name=name):
                    function = getattr(module(file), name)
                    self.assertTrue(inspect.isfunction(function))
                    self.assertEqual(function.__module__, f"oddcents.{file}")
                    self.assertEqual(str(inspect.signature(function)), parameters)

    def test_classes(self):
        for file, classes in CLASSES.items():
            for name, (parameters, body, properties) in classes.items():
                with self.subTest(file=file, name=name):
                    kind = getattr(module(file), name)
                    self.assertTrue(inspect.isclass(kind))
                    self.assertEqual(kind.__module__, f"oddcents.{file}")
                    self.assertEqual(str(inspect.signature(kind)), parameters)
                    self.assertLessEqual(set(body.split()), set(vars(kind)))
                    self.assertEqual({word for word in body.split() if isinstance(vars(kind)[word], property)},
                                     set(properties.split()))

    def test_class_methods(self):
        for name, kind, method, parameters in (("evenings", "Evening", "together", "(seat_count, *amounts)"),
                                               ("ledger", "Ledger", "replay", "(seat_count, mark, *operations)")):
            bound = getattr(getattr(module(name), kind), method)
            self.assertTrue(inspect.ismethod(bound))
            self.assertEqual(str(inspect.signature(bound)), parameters)

    def test_class_values(self):
        self.assertEqual([Bill.MAX_SEATS, Evening.MAX_BILLS], [8, 30])

    def test_all_errors_of_the_files_are_those_of_errors(self):
        for file in [*FUNCTIONS, *CLASSES]:
            for name, kind in vars(module(file)).items():
                if inspect.isclass(kind) and issubclass(kind, Exception):
                    self.assertTrue(issubclass(kind, CentError), (file, name))
                    self.assertEqual(kind.__module__, "oddcents.errors")


if __name__ == "__main__":
    unittest.main()
