"""The examples of the interface, word for word as they stand in examples.md."""

import unittest
from pathlib import Path

from oddcents.errors import CentError

SIGN = ">>> "


def examples():
    """All examples as (lines of code, what the last one gives)."""
    found = []
    blocks = Path(__file__).with_name("examples.md").read_text(encoding="utf-8").split("```\n")[1::2]
    for block in blocks:
        for part in block.strip("\n").split("\n\n"):
            *code, expected = part.split("\n")
            if expected.startswith(SIGN) or not all(line.startswith(SIGN) for line in code):
                raise AssertionError(f"this is no example: {part}")
            found.append(([line.removeprefix(SIGN) for line in code], expected))
    return found


def told(error):
    """An error as the examples tell it."""
    attributes = ", ".join(f"{name}={value!r}" for name, value in vars(error).items())
    return f"raises {error.__class__.__name__}" + (f"({attributes})" if attributes else "")


def outcome(code):
    names = {}
    for line in code[:-1]:
        exec(line, names)
    try:
        return repr(eval(code[-1], names))
    except CentError as error:
        return told(error)


class ExampleTests(unittest.TestCase):
    def test_all_examples(self):
        for code, expected in examples():
            with self.subTest(code=code):
                self.assertEqual(outcome(code), expected)

    def test_no_example_is_left_out(self):
        text = "\n".join(line for code, _ in examples() for line in code)
        for name in ("Shares", "Bill", "Evening", "Evening.together", "repeated", "long_run", "widest_gap", "best_mark",
                     "fairest_order", "first_difference", "known_after", "reset", "telling", "MarkObserver", "payments",
                     "fewest_payments", "balance_after", "Ledger", "ledger.lay", "ledger.hand", "ledger.move",
                     "ledger.settle", "ledger.undo", "ledger.redo", "ledger.apply_all", "Ledger.replay", "Fixed",
                     "Turns", "Until", "group.seats_for", "evening_of", "format_evening", "parse_evening", "receipt",
                     "parse_receipt", "encode_evening", "decode_evening"):
            self.assertIn(f"{name}(", text)
        self.assertEqual(len(examples()), 40)


if __name__ == "__main__":
    unittest.main()
