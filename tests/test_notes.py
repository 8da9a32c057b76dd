import itertools
import re
import unittest

from marshyear.errors import MarshError, NoDate
from marshyear.notes import read, shown

# What the document says, written out here so that the tests don't lean on the program's own tables.
MONTH_LENGTHS = [35, 32, 35, 32, 35, 32, 35, 32, 35, 32, 31]
WRITTEN = re.compile(r"(0|-?[1-9][0-9]*)\.([1-9][0-9]*)\.([1-9][0-9]*)", re.ASCII)

LARGEST = 10**100 - 1
ASCII_SIGNS = [chr(code) for code in range(128)]

NAMED_LINES = [
    "1.4.33", "5.4.34", "1.12.1", "1.0.1", "1.1.0", "1.1", "1.1.1.1", "01.1.1", "1.01.1", "-0.1.1", "+1.1.1",
    "1.-1.1", "1. 1.1", "",
]

WRITTEN_DATES = {
    (-1, 11, 31): "-1.11.31",
    (0, 1, 1): "0.1.1",
    (0, 11, 31): "0.11.31",
    (0, 4, 33): "0.4.33",
    (1, 1, 1): "1.1.1",
    (1, 10, 10): "1.10.10",
    (5, 4, 33): "5.4.33",
    (10, 10, 20): "10.10.20",
    (-5, 4, 33): "-5.4.33",
    (-10, 2, 32): "-10.2.32",
    (-30, 4, 32): "-30.4.32",
    (100, 1, 35): "100.1.35",
    (-210, 4, 33): "-210.4.33",
    (1234567890, 9, 30): "1234567890.9.30",
    (10**99, 4, 33): "1" + "0" * 99 + ".4.33",
    (-(10**99), 4, 33): "-1" + "0" * 99 + ".4.33",
    (3 * 10**99, 4, 32): "3" + "0" * 99 + ".4.32",
    (LARGEST, 11, 31): "9" * 100 + ".11.31",
    (-LARGEST, 1, 35): "-" + "9" * 100 + ".1.35",
    (10**120, 7, 35): "1" + "0" * 120 + ".7.35",
    (-(10**120), 8, 32): "-1" + "0" * 120 + ".8.32",
}

YEARS = [0, 1, 2, 5, 9, 10, 29, 30, 99, 100, 205, 210, 2**64, 10**50 + 1, 10**99, 3 * 10**99, 21 * 10**98, LARGEST]


def expected_date(line):
    """What the document asks for, told in another way than the program tells it; None for a refusal."""
    found = WRITTEN.fullmatch(line)
    if found is None:
        return None
    year, month, day = (int(part) for part in found.groups())
    if month > 11:
        return None
    long_year = year % 210 == 0 or (year % 5 == 0 and year % 30 != 0)
    last = MONTH_LENGTHS[month - 1] + (1 if long_year and month == 4 else 0)
    return (year, month, day) if day <= last else None


def dates_of_year(year):
    dates = []
    for month in range(1, 12):
        for day in range(1, 36):
            if expected_date(f"{year}.{month}.{day}") is not None:
                dates.append((year, month, day))
    return dates


class Shown(unittest.TestCase):
    def test_named_date(self):
        self.assertEqual(shown((-1, 11, 31)), "-1.11.31")

    def test_written_dates(self):
        for date, line in WRITTEN_DATES.items():
            self.assertEqual(shown(date), line)

    def test_kind_of_the_answer(self):
        self.assertIs(type(shown((0, 1, 1))), str)

    def test_two_dates_are_never_written_alike(self):
        dates = [date for year in range(-12, 13) for date in dates_of_year(year)]
        self.assertEqual(len({shown(date) for date in dates}), len(dates))


class Read(unittest.TestCase):
    def assert_refused(self, line):
        try:
            date = read(line)
        except NoDate:
            return
        self.fail(f"{line!r} was read to {date}")

    def assert_as_expected(self, line):
        expected = expected_date(line)
        if expected is None:
            self.assert_refused(line)
        else:
            self.assertEqual(read(line), expected, line)

    def test_written_dates(self):
        for date, line in WRITTEN_DATES.items():
            self.assertEqual(read(line), date)

    def test_what_is_shown_is_read_to_the_same_date(self):
        for year in YEARS + [-year for year in YEARS]:
            for date in dates_of_year(year):
                self.assertEqual(read(shown(date)), date)

    def test_kinds_of_the_answer(self):
        for line in ("0.1.1", "-1.11.31"):
            date = read(line)
            self.assertIs(type(date), tuple)
            self.assertEqual([type(part) for part in date], [int, int, int])

    def test_named_lines(self):
        for line in NAMED_LINES:
            self.assert_refused(line)

    def test_the_refusal_is_no_date(self):
        for line in NAMED_LINES + ["x", "1.x.1", "9" * 5000, "1." + "9" * 5000 + ".1", "1.1." + "9" * 5000]:
            with self.assertRaises(MarshError) as raised:
                read(line)
            self.assertIs(type(raised.exception), NoDate)

    def test_blanks_and_line_feeds(self):
        for blank in (" ", "  ", "\n", "\r", "\r\n", "\t", "\v", "\f", "\x1c", "\x1f", "\0"):
            for line in ("1.1.1", "0.1.1", "-1.11.31", "5.4.33", "10.10.10"):
                self.assert_refused(blank + line)
                self.assert_refused(line + blank)
                self.assert_refused(blank + line + blank)
                self.assert_refused(line.replace(".", blank + "."))
                self.assert_refused(line.replace(".", "." + blank))
                self.assert_refused(line.replace(".", blank))
            self.assert_refused(blank)
            self.assert_refused("- 1.1.1".replace(" ", blank))

    def test_signs_ahead_of_parts(self):
        for line in ("+1.1.1", "1.+1.1", "1.1.+1", "1.-1.1", "1.1.-1", "--1.1.1", "+-1.1.1", "-+1.1.1", "+0.1.1",
                     "-0.1.1", "--0.1.1", "- 1.1.1", "-.1.1", "+.1.1", "-1.-11.31", "-1.11.-31", "1-.1.1", "1.1-.1",
                     "1.1.1-", "1-1.1.1", "1.1-1.1", "~1.1.1"):
            self.assert_refused(line)

    def test_signs_within_parts(self):
        for line in ("1_0.1.1", "10.1_0.1", "10.1.1_0", "_1.1.1", "1_.1.1", "1._1.1", "1.1_.1", "1.1._1", "1.1.1_",
                     "1,0.1.1", "1 0.1.1", "1'0.1.1", "1+0.1.1", "1.1.1 0", "1e1.1.1", "1.1e0.1", "1.1.1e0"):
            self.assert_refused(line)

    def test_letters(self):
        for line in ("a.1.1", "1.a.1", "1.1.a", "a.b.c", "x", "0x1.1.1", "1.0xb.1", "1.0b1.1", "1.1.0o7", "1a.1.1",
                     "1.1b.1", "1.1.1c", "1.I.1", "nan.1.1", "inf.1.1", "None", "(1, 1, 1)", "1L.1.1", "l.1.1"):
            self.assert_refused(line)

    def test_noughts_ahead_of_parts(self):
        for line in ("00.1.1", "000.1.1", "01.1.1", "001.1.1", "-01.1.1", "-00.1.1", "05.4.33", "1.01.1", "1.001.1",
                     "1.010.1", "1.1.01", "1.1.001", "1.1.010", "1.011.31", "0.01.01", "0" * 100 + "1.1.1",
                     "0" * 5000 + "1.1.1", "1." + "0" * 5000 + "1.1", "1.1." + "0" * 5000 + "1"):
            self.assert_refused(line)

    def test_empty_parts(self):
        for line in (".1.1", "1..1", "1.1.", "..", "1..", "..1", ".1.", "-..", "-.1.1", "1.-.1", "1.1.-"):
            self.assert_refused(line)

    def test_too_few_and_too_many_parts(self):
        for line in ("", "1", "-1", "1.1", "-1.11", "1.1.1.1", "1.1.1.1.1", "1.1.1.0", ".", "...", "....", "1.1..1",
                     "1..1.1", "-1.11.31.1", "1." * 1000 + "1"):
            self.assert_refused(line)

    def test_stops_at_either_end(self):
        for line in ("1.1.1", "0.1.1", "-1.11.31"):
            self.assert_refused("." + line)
            self.assert_refused(line + ".")
            self.assert_refused("." + line + ".")

    def test_other_signs_between_parts(self):
        for sign in ASCII_SIGNS:
            if sign not in ".0123456789":
                for line in ("1.1.1", "-1.11.31"):
                    self.assert_refused(line.replace(".", sign))
                    self.assert_refused(line.replace(".", sign, 1))

    def test_months_out_of_range(self):
        for year in ("-5", "0", "1", "5", "30"):
            for month in ("0", "12", "13", "22", "35", "100", "111", "110", "4294967297", "18446744073709551617",
                          "1" + "0" * 99, "9" * 100, "1" + "0" * 98 + "1", "9" * 120):
                self.assert_refused(f"{year}.{month}.1")
                self.assert_refused(f"{year}.-{month}.1")

    def test_days_out_of_range(self):
        for year in ("-5", "0", "1", "5", "30"):
            for month in range(1, 12):
                for day in ("0", "36", "37", "99", "100", "311", "4294967297", "18446744073709551617",
                            "1" + "0" * 99, "9" * 100, "1" + "0" * 98 + "1", "9" * 120):
                    self.assert_refused(f"{year}.{month}.{day}")
                    self.assert_refused(f"{year}.{month}.-{day}")

    def test_edges_of_each_month(self):
        for month, last in enumerate(MONTH_LENGTHS, start=1):
            self.assertEqual(read(f"1.{month}.{last}"), (1, month, last))
            self.assert_refused(f"1.{month}.{last + 1}")

    def test_day_33_of_month_four(self):
        for year in (0, 5, 25, 210, -5, -210, 10**99, -(10**99), 21 * 10**98, LARGEST - 4):
            self.assertEqual(read(f"{year}.4.33"), (year, 4, 33))
            self.assert_refused(f"{year}.4.34")
        for year in (1, 30, 180, -1, -30, -60, 3 * 10**99, -3 * 10**99, LARGEST, 21 * 10**98 + 30):
            self.assertEqual(read(f"{year}.4.32"), (year, 4, 32))
            self.assert_refused(f"{year}.4.33")

    def test_one_sign_put_in_taken_out_or_changed(self):
        for line in ("1.4.32", "5.4.33", "0.1.1", "-1.11.31", "-30.10.20", "9" * 100 + ".1.1"):
            for place in range(len(line) + 1):
                self.assert_as_expected(line[:place] + line[place + 1:])
                for sign in ASCII_SIGNS:
                    self.assert_as_expected(line[:place] + sign + line[place:])
                    self.assert_as_expected(line[:place] + sign + line[place + 1:])

    def test_all_short_lines_of_a_few_signs(self):
        for length in range(8):
            for signs in itertools.product("013-.", repeat=length):
                self.assert_as_expected("".join(signs))
        for length in range(6):
            for signs in itertools.product("01-+_ .\n", repeat=length):
                self.assert_as_expected("".join(signs))

    def test_each_month_and_day_of_some_years(self):
        for year in (-210, -30, -5, -1, 0, 1, 5, 30, 210):
            for month in range(-2, 15):
                for day in range(-2, 40):
                    self.assert_as_expected(f"{year}.{month}.{day}")


class Arguments(unittest.TestCase):
    def test_arguments_bear_their_names(self):
        self.assertEqual(shown(date=(-1, 11, 31)), "-1.11.31")
        self.assertEqual(read(line="-1.11.31"), (-1, 11, 31))

    def test_nothing_handed_in_is_changed(self):
        date = (-1, 11, 31)
        line = "-1.11.31"
        self.assertEqual((shown(date), read(line)), (line, date))
        self.assertEqual((date, line), ((-1, 11, 31), "-1.11.31"))
        self.assertEqual((shown(date), read(line)), (line, date))
