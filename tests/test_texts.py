import re
import unittest
from random import Random

from oddcents.errors import InvalidBill, InvalidEvening, InvalidText
from oddcents.evenings import Bill, Evening
from oddcents.texts import format_evening, parse_evening

from tables import made, many_evenings, raised, random_bills, sample_evenings, seat_sets, told

# A number from 0 to 13 digits long, as a row has it.
NUMBER = re.compile("0|[1-9][0-9]{0,12}")

# Words that are no numbers of the form that a row has.
WRONG_WORDS = ["", "00", "01", "007", "+1", "-1", "-0", "1.0", "1,000", "1e3", "0x1", "1_0", "x", "table", "bill", "1x",
               "x1", "None", "10000000000000", "99999999999999", "1" * 30, "1" * 5000, "0" * 13, "0000000000001",
               "\u0661", "\uff11", "\u00b2", "1\u0661", "\t1", "1\t", "1\r", "\u00a01"]


def text_of(seat_count, bills):
    """The text of bills (amount, seats)."""
    rows = [f"table {seat_count}"]
    for amount, seats in bills:
        rows.append(f"bill {amount}" + "".join(f" {seat}" for seat in seats))
    return "\n".join(rows)


def wrong_place(text):
    """The row and the word that InvalidText tells of a text, or None."""
    for at, row in enumerate(text.split("\n")):
        first, least, most = ("bill", 3, 10 ** 9) if at > 0 else ("table", 2, 2)
        words = row.split(" ")
        wrong = [word for word in range(len(words))
                 if word >= most or not (words[0] == first if word == 0 else NUMBER.fullmatch(words[word]))]
        if wrong:
            return at, wrong[0]
        if len(words) < least:
            return at, len(words)
    return None


def outcome(text):
    """What parse_evening gives: (number of seats, bills), or the name of the error and its attributes."""
    try:
        evening = parse_evening(text)
    except InvalidText as error:
        return "InvalidText", error.row, error.word
    except (InvalidBill, InvalidEvening) as error:
        return error.__class__.__name__, error.index
    return evening.seat_count, told(evening.bills)


def expected(text):
    """The same by a plain reckoning."""
    place = wrong_place(text)
    if place is not None:
        return "InvalidText", *place
    rows = [[int(word) for word in row.split(" ")[1:]] for row in text.split("\n")]
    for amount, *seats in rows[1:]:
        if amount > 10 ** 12:
            return "InvalidBill", -1
        for index, seat in enumerate(seats):
            if seat > 7 or seat in seats[:index] or seat < max(seats[:index], default=0):
                return "InvalidBill", index
    if not 2 <= rows[0][0] <= 8:
        return "InvalidEvening", -1
    for index, (_, *seats) in enumerate(rows[1:]):
        if max(seats) >= rows[0][0]:
            return "InvalidEvening", index
    return ("InvalidEvening", 30) if len(rows) > 31 else (rows[0][0], [(row[0], tuple(row[1:])) for row in rows[1:]])


class FormatTests(unittest.TestCase):
    def test_example(self):
        self.assertEqual(format_evening(Evening(3, Bill(1000, 0, 2), Bill(5, 1))),
                         "table 3\nbill 1000 0 2\nbill 5 1")

    def test_no_bills(self):
        for seat_count in range(2, 9):
            self.assertEqual(format_evening(Evening(seat_count)), f"table {seat_count}")

    def test_amounts(self):
        for amount in (0, 1, 9, 10, 99, 100, 1000, 10 ** 9, 10 ** 12 - 1, 10 ** 12):
            self.assertEqual(format_evening(Evening(2, Bill(amount, 0, 1))), f"table 2\nbill {amount} 0 1")

    def test_all_tables_and_seats(self):
        for seat_count in range(2, 9):
            for seats in seat_sets(seat_count):
                self.assertEqual(format_evening(Evening(seat_count, Bill(7, *seats))),
                                 text_of(seat_count, [(7, seats)]))

    def test_evenings_of_all_kinds(self):
        for seat_count, bills in [*sample_evenings(), *many_evenings(4, 10, 30)]:
            evening = made(seat_count, bills)
            text = format_evening(evening)
            self.assertIsInstance(text, str)
            self.assertEqual(text, text_of(seat_count, bills))
            self.assertEqual(format_evening(evening), text)
            self.assertEqual([evening.seat_count, told(evening.bills)], [seat_count, bills])


class ParseTests(unittest.TestCase):
    def assert_wrong(self, row, word, text):
        with self.subTest(text=text):
            self.assertEqual(wrong_place(text), (row, word))
            error = raised(InvalidText, lambda: parse_evening(text))
            self.assertEqual([error.row, error.word], [row, word])

    def assert_invalid(self, kind, index, text):
        with self.subTest(text=text):
            self.assertEqual(raised(kind, lambda: parse_evening(text)).index, index)

    def test_examples(self):
        self.assertEqual(parse_evening("table 3\nbill 1000 0 2")[0].amount, 1000)
        self.assert_wrong(1, 2, "table 3\nbill 1000")

    def test_no_bills(self):
        for seat_count in range(2, 9):
            evening = parse_evening(f"table {seat_count}")
            self.assertIsInstance(evening, Evening)
            self.assertEqual([evening.seat_count, evening.bills], [seat_count, ()])

    def test_texts_of_evenings_are_read_again(self):
        for seat_count, bills in [*sample_evenings(), *many_evenings(5, 10, 30)]:
            self.assertEqual(outcome(format_evening(made(seat_count, bills))), (seat_count, bills))
            self.assertEqual(outcome(text_of(seat_count, bills)), (seat_count, bills))

    def test_amounts_and_seats_are_integers(self):
        evening = parse_evening("table 8\nbill 1000000000000 0 7\nbill 0 3")
        self.assertEqual(told(evening.bills), [(10 ** 12, (0, 7)), (0, (3,))])
        for number in [evening.seat_count, *[bill.amount for bill in evening.bills], *evening[0].seats]:
            self.assertIs(number.__class__, int)

    def test_thirty_bills_and_more(self):
        bills = [(amount, (0, 1)) for amount in range(32)]
        self.assertEqual(outcome(text_of(2, bills[:30])), (2, bills[:30]))
        self.assert_invalid(InvalidEvening, 30, text_of(2, bills[:31]))
        self.assert_invalid(InvalidEvening, 30, text_of(2, bills))

    def test_a_text_without_signs(self):
        self.assert_wrong(0, 0, "")

    def test_rows_without_signs(self):
        self.assert_wrong(0, 0, "\n")
        self.assert_wrong(0, 0, "\ntable 3")
        self.assert_wrong(1, 0, "table 3\n")
        self.assert_wrong(1, 0, "table 3\n\nbill 5 0")
        self.assert_wrong(2, 0, "table 3\nbill 5 0\n")
        self.assert_wrong(2, 0, "table 3\nbill 5 0\n\n")

    def test_other_first_words(self):
        for word in ("Table", "TABLE", "tables", "tabl", "bill", "3", "x", "\ttable", "table\t", "table3", "\ufeff"):
            self.assert_wrong(0, 0, f"{word} 3")
            self.assert_wrong(0, 0, f"{word} 3\nbill x 0")
        for word in ("Bill", "BILL", "bills", "bil", "table", "5", "x", "\tbill", "bill\t", "bill5", "#"):
            self.assert_wrong(1, 0, f"table 3\n{word} 5 0")
            self.assert_wrong(2, 0, f"table 3\nbill 5 0\n{word} 5 0")
            self.assert_wrong(1, 0, f"table 3\n{word}")
            self.assert_wrong(1, 0, f"table 3\n{word} x")

    def test_missing_words(self):
        self.assert_wrong(0, 1, "table")
        self.assert_wrong(0, 1, "table\nbill 5 0")
        self.assert_wrong(1, 1, "table 3\nbill")
        self.assert_wrong(1, 2, "table 3\nbill 5")
        self.assert_wrong(3, 2, "table 3\nbill 5 0\nbill 5 1\nbill 5\nbill")

    def test_superfluous_words(self):
        self.assert_wrong(0, 2, "table 3 4")
        self.assert_wrong(0, 2, "table 3 x")
        self.assert_wrong(0, 2, "table 3 4 5 6")
        self.assert_wrong(0, 2, "table 3 bill 5 0")
        self.assert_wrong(0, 1, "table x 4")

    def test_spaces_where_none_belong(self):
        self.assert_wrong(0, 0, " ")
        self.assert_wrong(0, 0, "  ")
        self.assert_wrong(0, 0, " table 3")
        self.assert_wrong(0, 1, "table ")
        self.assert_wrong(0, 1, "table  3")
        self.assert_wrong(0, 2, "table 3 ")
        self.assert_wrong(0, 2, "table 3  ")
        self.assert_wrong(1, 0, "table 3\n bill 5 0")
        self.assert_wrong(1, 0, "table 3\n ")
        self.assert_wrong(1, 1, "table 3\nbill ")
        self.assert_wrong(1, 1, "table 3\nbill  5 0")
        self.assert_wrong(1, 2, "table 3\nbill 5 ")
        self.assert_wrong(1, 2, "table 3\nbill 5  0")
        self.assert_wrong(1, 3, "table 3\nbill 5 0 ")
        self.assert_wrong(1, 3, "table 3\nbill 5 0  1")

    def test_other_signs_between_words_and_rows(self):
        self.assert_wrong(0, 0, "table\t3")
        self.assert_wrong(0, 1, "table 3\r\nbill 5 0")
        self.assert_wrong(0, 1, "table 3\rbill 5 0")
        self.assert_wrong(1, 1, "table 3\nbill 5\u00a00")
        self.assert_wrong(1, 2, "table 3\nbill 5 0\x0bbill 5 1")
        self.assert_wrong(1, 2, "table 3\nbill 5 0\u2028bill 5 1")

    def test_words_that_are_no_numbers(self):
        for word in WRONG_WORDS:
            self.assert_wrong(0, 1, f"table {word}")
            self.assert_wrong(0, 1, f"table {word} 4")
            self.assert_wrong(1, 1, f"table 3\nbill {word}")
            self.assert_wrong(1, 1, f"table 3\nbill {word} 0 x")
            self.assert_wrong(1, 2, f"table 3\nbill 5 {word}")
            self.assert_wrong(1, 3, f"table 3\nbill 5 0 {word} 2")
            self.assert_wrong(2, 4, f"table 3\nbill 5 0\nbill 5 0 1 {word}\nbill")

    def test_numbers_of_one_to_thirteen_digits_have_the_right_form(self):
        for number in (0, 9, 10, 10 ** 12, 10 ** 12 + 1, 10 ** 13 - 1):
            self.assertIsNone(wrong_place(f"table {number}\nbill {number} {number}"))
            if number > 8 or number < 2:
                self.assert_invalid(InvalidEvening, -1, f"table {number}")
            if number > 10 ** 12:
                self.assert_invalid(InvalidBill, -1, f"table 3\nbill {number} 0")
            if number > 7:
                self.assert_invalid(InvalidBill, 0, f"table 3\nbill 5 {number}")
                self.assert_invalid(InvalidBill, 1, f"table 3\nbill 5 0 {number}")

    def test_the_first_row_and_the_first_word_tell(self):
        self.assert_wrong(0, 1, "table 03\nbill 05 0\nbull")
        self.assert_wrong(1, 1, "table 3\nbill 05 00\nbull")
        self.assert_wrong(2, 3, "table 3\nbill 5 0\nbill 5 0 01 x\nbull")

    def test_the_form_comes_before_the_bills(self):
        self.assert_wrong(2, 0, "table 9\nbill 9999999999999 9\nbull 5 0")
        self.assert_wrong(1, 2, "table 0\nbill 9999999999999")
        self.assert_wrong(40, 1, text_of(2, [(5, (1,))] * 39) + "\nbill x")

    def test_invalid_bills(self):
        self.assert_invalid(InvalidBill, -1, "table 3\nbill 1000000000001 0")
        self.assert_invalid(InvalidBill, 0, "table 3\nbill 5 8")
        self.assert_invalid(InvalidBill, 1, "table 3\nbill 5 1 0")
        self.assert_invalid(InvalidBill, 1, "table 3\nbill 5 1 1")
        self.assert_invalid(InvalidBill, 2, "table 3\nbill 5 0 1 9")
        self.assert_invalid(InvalidBill, 8, "table 8\nbill 5 0 1 2 3 4 5 6 7 8")
        self.assert_invalid(InvalidBill, -1, "table 3\nbill 1000000000001 8 8")

    def test_the_first_invalid_bill_tells(self):
        self.assert_invalid(InvalidBill, 1, "table 3\nbill 5 0\nbill 5 2 1\nbill 1000000000001 0")
        self.assert_invalid(InvalidBill, -1, "table 3\nbill 5 0\nbill 1000000000001 0\nbill 5 2 1")

    def test_bills_come_before_the_evening(self):
        self.assert_invalid(InvalidBill, 1, "table 9\nbill 5 1 0")
        self.assert_invalid(InvalidBill, 1, "table 2\nbill 5 7\nbill 5 1 0")
        self.assert_invalid(InvalidBill, 0, text_of(2, [(5, (0,))] * 31) + "\nbill 5 8")

    def test_invalid_evenings(self):
        for seat_count in (0, 1, 9, 10, 10 ** 13 - 1):
            self.assert_invalid(InvalidEvening, -1, f"table {seat_count}")
            self.assert_invalid(InvalidEvening, -1, f"table {seat_count}\nbill 5 0 7")
        self.assert_invalid(InvalidEvening, 0, "table 3\nbill 5 3")
        self.assert_invalid(InvalidEvening, 1, "table 3\nbill 5 2\nbill 5 0 7\nbill 5 7")

    def test_seats_that_the_table_just_has(self):
        for seat_count in range(2, 9):
            self.assertEqual(outcome(f"table {seat_count}\nbill 5 {seat_count - 1}"),
                             (seat_count, [(5, (seat_count - 1,))]))

    def test_repeated_calls_return_equal_results(self):
        for text in ("table 3\nbill 5 0 2", "table 3\nbill 5", "table 3\nbill 5 1 0", "table 3\nbill 5 3"):
            self.assertEqual(outcome(text), outcome(text))


class ChangedTextTests(unittest.TestCase):
    """Texts that are right but for a few signs."""

    PIECES = ["0", "1", "7", "9", " ", "\n", "bill", "table", "bill 5 0", "\nbill 5 0", "x", "-", "13", "1000000000000"]

    def changed(self, chance, text):
        for _ in range(chance.choice((1, 1, 1, 2, 3))):
            at = chance.randrange(len(text) + 1)
            text = text[:at] + chance.choice(["", *self.PIECES]) + text[at + chance.choice((0, 0, 1, 1, 5)):]
        return text

    def test_random_changes(self):
        chance = Random(6)
        reached = {}
        for _ in range(6000):
            seat_count = chance.randrange(2, 9)
            text = self.changed(chance, text_of(seat_count, random_bills(chance, seat_count, chance.randrange(4))))
            found = outcome(text)
            self.assertEqual(found, expected(text), text)
            kind = found[0] if isinstance(found[0], str) else "evening"
            reached[kind] = reached.get(kind, 0) + 1
        self.assertEqual(sorted(reached), ["InvalidBill", "InvalidEvening", "InvalidText", "evening"])
        self.assertGreater(min(reached.values()), 100, reached)

    def test_all_beginnings(self):
        text = text_of(8, [(10 ** 12, (0, 3, 7)), (12, (1, 2))])
        for length in range(len(text) + 1):
            self.assertEqual(outcome(text[:length]), expected(text[:length]), text[:length])


if __name__ == "__main__":
    unittest.main()
