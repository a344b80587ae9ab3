import re
import unittest
from random import Random

from oddcents.errors import InvalidMark, InvalidReceipt
from oddcents.evenings import Bill, Evening
from oddcents.receipts import parse_receipt, receipt
from oddcents.shares import Shares

from tables import made, many_evenings, paid_in_all, raised, sample_evenings

TITLES = {seat_count: f"========= table of {seat_count} =========" for seat_count in range(2, 9)}

# The units, the point and the rest of an amount, and what stands before them on a line.
SEAT_LINE = re.compile(r"(?P<seat>[0-9])   (?P<spaces> *)(?P<units>0|[1-9][0-9]{0,2}(,[0-9]{3})*)\.(?P<rest>[0-9]{2})")

# Where the borders of digits, commas and the point are, and the greatest number of cents that an evening can have.
CENTS = [0, 1, 9, 10, 99, 100, 101, 999, 1000, 9899, 9900, 9901, 9999, 10000, 10001, 10099, 10100, 99900, 99999,
         100000, 100001, 100099, 123456, 9999999, 99999999, 100000000, 246913579, 10 ** 12, 30 * 10 ** 12]


def written(cents):
    """An amount in units, written digit by digit."""
    digits = str(cents).rjust(3, "0")
    units, rest = digits[:-2], digits[-2:]
    groups = []
    while units:
        groups.insert(0, units[-3:])
        units = units[:-3]
    return ",".join(groups) + "." + rest


def line(name, told):
    return str(name).ljust(4) + str(told).rjust(26)


def text_of(cents, mark):
    """The receipt of what each seat pays and the mark afterwards."""
    return "\n".join([TITLES[len(cents)], *[line(seat, written(paid)) for seat, paid in enumerate(cents)],
                      line("mark", mark)])


def right_seat_line(told, seat):
    found = SEAT_LINE.fullmatch(told)
    if not found or found["seat"] != str(seat):
        return False
    amount = f"{found['units']}.{found['rest']}"
    digits = len(amount.replace(",", "")) - 1
    return len(found["spaces"]) == max(0, 26 - len(amount)) and digits <= 24


def wrong_row(text):
    """The row that InvalidReceipt tells of a text, or None."""
    lines = text.split("\n")
    seat_count = len(lines) - 2
    if not 2 <= seat_count <= 8 or lines[0] != TITLES[seat_count]:
        return 0
    for seat in range(seat_count):
        if not right_seat_line(lines[seat + 1], seat):
            return seat + 1
    marks = [f"mark{' ' * 25}{mark}" for mark in range(seat_count)]
    return None if lines[-1] in marks else seat_count + 1


def outcome(text):
    """What parse_receipt gives: (cents, mark), or the row of the error."""
    try:
        shares, mark = parse_receipt(text)
    except InvalidReceipt as error:
        return error.row
    return shares.cents, mark


class ReceiptTests(unittest.TestCase):
    def test_example(self):
        self.assertEqual(receipt(Evening.together(2, 246913579), 0).split("\n"), [
            "========= table of 2 =========",
            "0                 1,234,567.89",
            "1                 1,234,567.90",
            "mark                         1"])

    def test_a_receipt_word_for_word(self):
        evening = Evening(4, Bill(400002, 0, 1, 2, 3), Bill(5, 2))
        self.assertEqual(receipt(evening, 2), "\n".join([
            "========= table of 4 =========",
            "0                     1,000.01",
            "1                     1,000.00",
            "2                     1,000.05",
            "3                     1,000.01",
            "mark                         0"]))

    def test_nobody_pays(self):
        for seat_count in range(2, 9):
            for mark in range(seat_count):
                self.assertEqual(receipt(Evening(seat_count), mark), text_of((0,) * seat_count, mark))
        self.assertEqual(receipt(Evening(2), 1).split("\n")[1:], [
            "0                         0.00",
            "1                         0.00",
            "mark                         1"])

    def test_amounts(self):
        for cents in CENTS[:-1]:
            text = receipt(Evening(2, Bill(cents, 1)), 0)
            self.assertEqual(text, text_of((0, cents), 0))
            self.assertEqual(text.split("\n")[2], line(1, f"{cents // 100:,}.{cents % 100:02}"))

    def test_the_greatest_amounts(self):
        evening = Evening(8, Bill(10 ** 12, 7)) * 30
        self.assertEqual(receipt(evening, 3), text_of((0,) * 7 + (30 * 10 ** 12,), 3))
        self.assertIn("7           300,000,000,000.00", receipt(evening, 3))

    def test_titles_of_all_tables(self):
        for seat_count in range(2, 9):
            title = receipt(Evening(seat_count), 0).split("\n")[0]
            left, right = title.split(f" table of {seat_count} ")
            self.assertEqual([left, right], ["=" * 9, "=" * 9])

    def test_evenings_of_all_kinds(self):
        for seat_count, bills in [*sample_evenings(), *many_evenings(7, 8, 30)]:
            evening = made(seat_count, bills)
            for mark in range(seat_count):
                text = receipt(evening, mark)
                self.assertIsInstance(text, str)
                self.assertEqual(text, text_of(*paid_in_all(seat_count, bills, mark)))
                self.assertEqual({len(row) for row in text.split("\n")}, {30})
                self.assertEqual(receipt(evening, mark), text)

    def test_marks_that_are_not_there(self):
        for seat_count in range(2, 9):
            for mark in (-seat_count, -1, seat_count, seat_count + 1, 10 ** 20):
                raised(InvalidMark, lambda: receipt(Evening.together(seat_count, 100), mark))
                raised(InvalidMark, lambda: receipt(Evening(seat_count), mark))


class ParseTests(unittest.TestCase):
    def assert_wrong(self, row, text):
        with self.subTest(text=text):
            self.assertEqual(wrong_row(text), row)
            self.assertEqual(raised(InvalidReceipt, lambda: parse_receipt(text)).row, row)

    def assert_wrong_line(self, told, row=1):
        """A line is wrong as that of a seat, or as the last one of three seats if its row is 4."""
        lines = text_of((5, 7, 12345), 1).split("\n")
        lines[row] = told
        self.assert_wrong(row, "\n".join(lines))

    def test_examples(self):
        shares, mark = parse_receipt(receipt(Evening.together(2, 101), 0))
        self.assertEqual([shares.cents, mark], [(50, 51), 1])
        self.assert_wrong(0, "table of 2")

    def test_receipts_of_evenings_are_read_again(self):
        for seat_count, bills in [*sample_evenings(), *many_evenings(8, 8, 30)]:
            for mark in range(seat_count):
                found = parse_receipt(receipt(made(seat_count, bills), mark))
                self.assertEqual(found, made(seat_count, bills)(mark))
                self.assertEqual((found[0].cents, found[1]), paid_in_all(seat_count, bills, mark))

    def test_what_is_returned(self):
        found = parse_receipt(text_of((5, 7, 100), 2))
        self.assertIsInstance(found, tuple)
        shares, mark = found
        self.assertIsInstance(shares, Shares)
        for number in [*shares.cents, mark]:
            self.assertIs(number.__class__, int)

    def test_amounts(self):
        for cents in CENTS:
            self.assertEqual(outcome(text_of((cents, 0), 0)), ((cents, 0), 0))
            self.assertEqual(outcome(text_of((3, 4, cents), 2)), ((3, 4, cents), 2))

    def test_numbers_of_all_lengths(self):
        # Of the longest ones the amount has more than 26 signs, so that nothing is filled up.
        for digits in range(1, 25):
            for cents in (10 ** (digits - 1), 10 ** digits - 1, int("123456789012345678901234"[:digits])):
                self.assertEqual(outcome(text_of((0, cents), 1)), ((0, cents), 1))
        self.assertEqual(len(text_of((0, 10 ** 20 - 1), 1).split("\n")[2]), 30)

    def test_longer_numbers_are_not_read(self):
        for cents in (10 ** 24, 10 ** 25 - 1, 10 ** 30, 10 ** 4000):
            self.assert_wrong(2, text_of((0, cents), 1))
        self.assert_wrong(2, "\n".join([TITLES[2], line(0, "0.05"), "1   " + "9" * 5000 + ".00", line("mark", 0)]))
        self.assert_wrong_line("0   " + "0" * 26 + ".05")

    def test_other_numbers_of_lines(self):
        for text in ("", "\n", "\n\n", TITLES[2], TITLES[2] + "\n" + line("mark", 0),
                     "\n".join(["========= table of 0 =========", line("mark", 0)]),
                     "\n".join(["========= table of 1 =========", line(0, "0.05"), line("mark", 0)]),
                     "\n".join(["========= table of 9 =========", *[line(seat, "0.05") for seat in range(9)],
                                line("mark", 0)])):
            self.assert_wrong(0, text)
        # The number of lines tells the number of seats, so the title is wrong.
        for seat_count in range(2, 9):
            text = text_of((5,) * seat_count, 0)
            lines = text.split("\n")
            for other in (text + "\n", "\n" + text, text + "\n" + line("mark", 0), "\n".join(lines[:-1]),
                          "\n".join(lines[1:]), "\n".join([lines[0], *lines[2:]]), text.replace("\n", ""),
                          text.replace("\n", "\r"), text.replace("\n", "\n\n")):
                self.assert_wrong(0, other)

    def test_titles(self):
        rows = text_of((5, 7, 12345), 1).split("\n")[1:]
        nine = "=" * 9
        for title in ("", f"{nine} table of 2 {nine}", f"{nine} table of 4 {nine}", f"{nine} Table of 3 {nine}",
                      f"{nine[1:]} table of 3 {nine}", f"{nine} table of 3 {nine[1:]}", f"{nine}= table of 3 {nine}",
                      f"{nine} table of 3 {nine}=", f"{nine[1:]} table of 3 {nine}=", f"{nine}= table of 3 {nine[1:]}",
                      f"{nine}  table of 3 {nine[1:]}", f"{nine[1:]} table of 3  {nine}", f"{nine} table of  3 {nine}",
                      f"{nine} table of 03 {nine[1:]}", f"{nine}table of 3 {nine}=", f"{nine} table of 3{nine}=",
                      f"{nine} table  of 3 {nine[1:]}", "--------- table of 3 ---------", "table of 3", " table of 3 ",
                      " table of 3 ".center(30), f"{nine} table of 3 {nine} ", f" {nine} table of 3 {nine}",
                      f"{nine} table of 3 {nine}\r", f"{nine} table of \uff13 {nine}", " " * 30):
            self.assert_wrong(0, "\n".join([title, *rows]))

    def test_lines_of_seats(self):
        for told in ("", " " * 30, "0", "0   ", "0".ljust(30), line(0, ""), line(1, "0.05"), line("", "0.05"),
                     line("00", "0.05"), line("x", "0.05"), line("mark", "0.05"), line("+0", "0.05"),
                     line("-0", "0.05"), " 0  " + "0.05".rjust(26), "0\t  " + "0.05".rjust(26),
                     "0   " + "0.05".ljust(26), "0   " + "0.05".center(26), line(0, "0.05") + " ",
                     " " + line(0, "0.05"), line(0, "0.05")[:4] + line(0, "0.05")[5:], "0    " + "0.05".rjust(26),
                     "0  " + "0.05".rjust(26), line(0, "0.05") + "\r", "0   0.05", "0 0.05", "0    0.05",
                     line("\uff10", "0.05"), "0   " + "0.05".rjust(26, "\u00a0"),
                     "0   " + "0.05".rjust(26, "\t"), "0   " + "0.05".rjust(26, "0"), "0   " + "0.05".rjust(26, "=")):
            self.assert_wrong_line(told)

    def test_amounts_that_are_wrong(self):
        for amount in ("5", "05", "005", ".05", "0.5", "0.", "0.005", "00.05", "000.05", "01.05", "0,05", "0.0.5",
                       "0..05", "0:05", "0 05", "0. 05", "+0.05", "-0.05", "-1.00", "0x0.05", "0.05 ", "5e0.00",
                       "1000.00", "1,00.00", "10,00.00", "1,0000.00", "10,000,00", ",100.00", "0,100.00", "1,,000.00",
                       "1,000,.00", "1000,000.00", "1,000000.00", "0,001,000.00", "001,000.00", "1.000,00",
                       "1.000.00", "1 000.00", "1_000.00", "1'000.00", "1,000.0", "1,000.000", "1,000.00,", "x.00",
                       "0.0x", "\u0661.00", "\uff11.00", "\u00b2.00", "0.\u0660\u0665", "None", "-0.00", "0.00-"):
            self.assert_wrong_line(line(0, amount))

    def test_the_right_lines_beside_these(self):
        lines = text_of((5, 7, 12345), 1).split("\n")
        for amount, cents in (("0.05", 5), ("0.50", 50), ("1.00", 100), ("10.00", 1000), ("100.00", 10000),
                              ("1,000.00", 100000), ("10,000.00", 1000000), ("1,000,000.00", 10 ** 8)):
            lines[1] = line(0, amount)
            self.assertEqual(outcome("\n".join(lines)), ((cents, 7, 12345), 1))

    def test_each_row(self):
        for seat_count in range(2, 9):
            lines = text_of((5,) * seat_count, 0).split("\n")
            for row in range(seat_count + 2):
                for told in ("", lines[row] + " ", lines[row][:-1], lines[row - 1], line(9, "0.05")):
                    self.assert_wrong(row, "\n".join([*lines[:row], told, *lines[row + 1:]]))

    def test_the_first_wrong_row_tells(self):
        lines = text_of((5, 7, 12345), 1).split("\n")
        for first in range(5):
            for later in range(first, 5):
                wrong = ["?" if row in (first, later) else told for row, told in enumerate(lines)]
                self.assert_wrong(first, "\n".join(wrong))

    def test_last_lines(self):
        for told in ("", "mark", "mark 1", "1", line("mark", ""), line("mark", 3), line("mark", 7), line("mark", 8),
                     line("mark", -1), line("mark", "01"), line("mark", "+1"), line("mark", "1."), line("mark", "0.01"),
                     line("mark", "x"), line("Mark", 1), line("MARK", 1), line("mar", 1), line(3, "0.05"),
                     "marks" + "1".rjust(25), line("mark", 1) + " ", " " + line("mark", 1), "mark" + "1".ljust(26),
                     "mark" + "1".rjust(25), "mark" + "1".rjust(27), "mark" + "1".rjust(26, "0"),
                     line("mark", "\uff11"), line("mark", 1) + "\r", line("mark", 10), line("mark", 11)):
            self.assert_wrong_line(told, row=4)

    def test_all_marks(self):
        for seat_count in range(2, 9):
            for mark in range(10):
                text = text_of((5,) * seat_count, mark)
                wanted = ((5,) * seat_count, mark) if mark < seat_count else seat_count + 1
                self.assertEqual(outcome(text), wanted)

    def test_random_changes(self):
        chance = Random(9)
        reached = {}
        for _ in range(6000):
            seat_count = chance.randrange(2, 9)
            cents = tuple(chance.randrange(10 ** chance.randrange(1, 25)) for _ in range(seat_count))
            mark = chance.randrange(seat_count)
            text = text_of(cents, mark)
            self.assertEqual(outcome(text), (cents, mark))
            for _ in range(chance.choice((1, 1, 2))):
                at = chance.randrange(len(text) + 1)
                text = text[:at] + chance.choice(("", *"  0189,.=\n")) + text[at + chance.choice((0, 1, 1, 1)):]
            found = outcome(text)
            if isinstance(found, tuple):
                self.assertIsNone(wrong_row(text), text)
                self.assertEqual(text_of(*found), text)
            else:
                self.assertEqual(found, wrong_row(text), text)
            kind = "right" if isinstance(found, tuple) else found
            reached[kind] = reached.get(kind, 0) + 1
        self.assertEqual(set(reached), {"right", *range(10)})
        self.assertGreater(min(reached.values()), 20, reached)

    def test_repeated_calls_return_equal_results(self):
        for text in (text_of((5, 7), 1), text_of((5, 7), 2), "", text_of((5, 10 ** 30), 1)):
            self.assertEqual(outcome(text), outcome(text))


if __name__ == "__main__":
    unittest.main()
