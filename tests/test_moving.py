import unittest

from marshyear.days import number_of, weekday_of
from marshyear.moving import months_on, weekday_in
from marshyear.years import is_date

# What the document says, written out here so that the tests don't lean on the program's own tables.
MONTH_LENGTHS = [35, 32, 35, 32, 35, 32, 35, 32, 35, 32, 31]

LARGEST = 10**100 - 1

LONG_YEARS = [
    0, 5, 25, 210, -5, -25, -210, 10**99, -10**99, 21 * 10**98, -21 * 10**98, LARGEST - 4, 4 - LARGEST, 10**120,
]
OTHER_YEARS = [
    1, 2, 30, 180, -1, -2, -30, -60, 10**99 + 1, 3 * 10**99, -3 * 10**99, 21 * 10**98 + 30, LARGEST, -LARGEST,
    3 * 10**120,
]
LARGE_NUMBERS = [10**9, 2**32, 2**63, 2**64 + 1, 10**50 + 7, 10**99, 11 * 10**98, LARGEST, 10**120]


def length_of(year, month):
    if month == 4 and year in LONG_YEARS:
        return 33
    return MONTH_LENGTHS[month - 1]


def is_long_year(year):
    if year % 210 == 0:
        return True
    return year % 5 == 0 and year % 30 != 0


def moved_by_steps(date, many):
    """One month after another, the day held back only at the end."""
    year, month, day = date
    for step in range(abs(many)):
        month += 1 if many > 0 else -1
        if month == 12:
            year, month = year + 1, 1
        if month == 0:
            year, month = year - 1, 11
    last = 33 if month == 4 and is_long_year(year) else MONTH_LENGTHS[month - 1]
    return (year, month, day if day <= last else last)


class MonthsOn(unittest.TestCase):
    def test_named_moves(self):
        self.assertEqual(months_on((1, 1, 35), 1), (1, 2, 32))
        self.assertEqual(months_on((2, 1, 33), -1), (1, 11, 31))
        self.assertEqual(months_on((5, 4, 33), 11), (6, 4, 32))

    def test_nought_months(self):
        for year in LONG_YEARS + OTHER_YEARS:
            for month in range(1, 12):
                for day in range(1, length_of(year, month) + 1):
                    self.assertEqual(months_on((year, month, day), 0), (year, month, day))

    def test_one_month_on_from_each_month(self):
        lasts = [(1, 2, 32), (1, 3, 32), (1, 4, 32), (1, 5, 32), (1, 6, 32), (1, 7, 32), (1, 8, 32), (1, 9, 32),
                 (1, 10, 32), (1, 11, 31), (2, 1, 31)]
        for month, after in enumerate(lasts, start=1):
            self.assertEqual(months_on((1, month, MONTH_LENGTHS[month - 1]), 1), after)
            self.assertEqual(months_on((1, month, 1), 1), (after[0], after[1], 1))
            self.assertEqual(months_on((1, month, 17), 1), (after[0], after[1], 17))

    def test_one_month_back_from_each_month(self):
        lasts = [(0, 11, 31), (1, 1, 32), (1, 2, 32), (1, 3, 32), (1, 4, 32), (1, 5, 32), (1, 6, 32), (1, 7, 32),
                 (1, 8, 32), (1, 9, 32), (1, 10, 31)]
        for month, ahead in enumerate(lasts, start=1):
            self.assertEqual(months_on((1, month, MONTH_LENGTHS[month - 1]), -1), ahead)
            self.assertEqual(months_on((1, month, 1), -1), (ahead[0], ahead[1], 1))
            self.assertEqual(months_on((1, month, 17), -1), (ahead[0], ahead[1], 17))

    def test_eleven_months_on_and_back(self):
        for year in (-211, -7, -2, -1, 0, 1, 2, 7, 29, 209, 10**99 + 1, -10**99 - 2):
            for month in range(1, 12):
                last = MONTH_LENGTHS[month - 1]
                self.assertEqual(months_on((year, month, last), 11), (year + 1, month, last))
                self.assertEqual(months_on((year, month, last), -11), (year - 1, month, last))

    def test_month_four_of_long_years_and_others(self):
        for year in LONG_YEARS:
            self.assertEqual(months_on((year, 3, 35), 1), (year, 4, 33))
            self.assertEqual(months_on((year, 5, 35), -1), (year, 4, 33))
            self.assertEqual(months_on((year, 3, 33), 1), (year, 4, 33))
            self.assertEqual(months_on((year, 4, 33), 1), (year, 5, 33))
            self.assertEqual(months_on((year, 4, 33), -1), (year, 3, 33))
            self.assertEqual(months_on((year, 4, 33), 2), (year, 6, 32))
            self.assertEqual(months_on((year, 4, 33), 11), (year + 1, 4, 32))
            self.assertEqual(months_on((year, 4, 33), -11), (year - 1, 4, 32))
        for year in OTHER_YEARS:
            self.assertEqual(months_on((year, 3, 35), 1), (year, 4, 32))
            self.assertEqual(months_on((year, 5, 33), -1), (year, 4, 32))
            self.assertEqual(months_on((year, 4, 32), 1), (year, 5, 32))
            self.assertEqual(months_on((year, 4, 32), -1), (year, 3, 32))

    def test_from_one_long_year_to_another(self):
        self.assertEqual(months_on((5, 4, 33), 55), (10, 4, 33))
        self.assertEqual(months_on((5, 4, 33), -55), (0, 4, 33))
        self.assertEqual(months_on((5, 4, 33), -110), (-5, 4, 33))
        self.assertEqual(months_on((25, 4, 33), 55), (30, 4, 32))
        self.assertEqual(months_on((-25, 4, 33), -55), (-30, 4, 32))
        self.assertEqual(months_on((0, 4, 33), 2310), (210, 4, 33))
        self.assertEqual(months_on((0, 4, 33), -2310), (-210, 4, 33))

    def test_over_the_year_nought(self):
        self.assertEqual(months_on((0, 1, 1), -1), (-1, 11, 1))
        self.assertEqual(months_on((0, 1, 35), -1), (-1, 11, 31))
        self.assertEqual(months_on((-1, 11, 31), 1), (0, 1, 31))
        self.assertEqual(months_on((-1, 1, 35), 22), (1, 1, 35))
        self.assertEqual(months_on((1, 1, 35), -22), (-1, 1, 35))
        self.assertEqual(months_on((1, 2, 32), -13), (-1, 11, 31))
        self.assertEqual(months_on((-1, 10, 32), 3), (0, 2, 32))
        self.assertEqual(months_on((-3, 7, 20), 35), (0, 9, 20))

    def test_by_steps(self):
        dates = [(-6, 11, 31), (-5, 4, 33), (-1, 11, 31), (0, 1, 35), (0, 4, 33), (1, 1, 34), (2, 6, 32), (5, 4, 33),
                 (29, 9, 35), (30, 3, 33), (209, 11, 1), (10**99, 4, 33), (-10**99, 4, 33)]
        for date in dates:
            for many in list(range(-70, 71)) + [-2310, -330, 330, 2310, 2313]:
                self.assertEqual(months_on(date, many), moved_by_steps(date, many), (date, many))

    def test_the_answer_is_a_date(self):
        for year in (-30, -5, -1, 0, 1, 5, 30):
            for month in range(1, 12):
                for many in range(-60, 61):
                    found = months_on((year, month, MONTH_LENGTHS[month - 1]), many)
                    self.assertTrue(is_date(found[0], found[1], found[2]), (year, month, many))

    def test_large_numbers_of_months(self):
        for years in LARGE_NUMBERS + [-number for number in LARGE_NUMBERS]:
            self.assertEqual(months_on((0, 1, 35), 11 * years), (years, 1, 35))
            self.assertEqual(months_on((0, 1, 35), 11 * years + 1), (years, 2, 32))
            self.assertEqual(months_on((0, 1, 35), 11 * years - 1), (years - 1, 11, 31))
            self.assertEqual(months_on((3, 9, 35), 11 * years + 5), (years + 4, 3, 35))
            self.assertEqual(months_on((-years, 11, 31), 11 * years), (0, 11, 31))
            self.assertEqual(months_on((-years, 11, 31), 11 * years + 1), (1, 1, 31))
            self.assertEqual(months_on((0, 4, 33), 11 * 210 * years), (210 * years, 4, 33))
            self.assertEqual(months_on((0, 4, 33), 11 * (210 * years + 30)), (210 * years + 30, 4, 32))

    def test_hundred_figures(self):
        # 10 to an even power is one more than a multiple of eleven, as 99, 9999 and so on are such multiples.
        years = (10**100 - 1) // 11
        self.assertEqual(months_on((0, 1, 35), LARGEST), (years, 1, 35))
        self.assertEqual(months_on((0, 1, 35), -LARGEST), (-years, 1, 35))
        self.assertEqual(months_on((0, 1, 35), LARGEST - 1), (years - 1, 11, 31))
        self.assertEqual(months_on((LARGEST, 11, 31), LARGEST), (LARGEST + years, 11, 31))
        self.assertEqual(months_on((-LARGEST, 1, 35), -LARGEST), (-LARGEST - years, 1, 35))

    def test_kinds_of_the_answer(self):
        for many in (0, 1, -1, LARGEST):
            found = months_on((1, 1, 35), many)
            self.assertIs(type(found), tuple)
            self.assertEqual([type(part) for part in found], [int, int, int])


class WeekdayIn(unittest.TestCase):
    def test_first_month_of_the_year_nought(self):
        # Its first day has the weekday nought.
        for weekday in range(9):
            first = weekday + 1
            self.assertEqual(weekday_in(0, 1, weekday, 1), (0, 1, first))
            self.assertEqual(weekday_in(0, 1, weekday, 2), (0, 1, first + 9))
            self.assertEqual(weekday_in(0, 1, weekday, 3), (0, 1, first + 18))
        for weekday in range(8):
            self.assertEqual(weekday_in(0, 1, weekday, 4), (0, 1, weekday + 28))
        self.assertIsNone(weekday_in(0, 1, 8, 4))
        for weekday in range(9):
            self.assertIsNone(weekday_in(0, 1, weekday, 5))

    def test_last_month_of_the_year_ahead_of_nought(self):
        # Its last day, the 31st, has the weekday 8, its first one the weekday 5.
        firsts = {5: 1, 6: 2, 7: 3, 8: 4, 0: 5, 1: 6, 2: 7, 3: 8, 4: 9}
        for weekday, first in firsts.items():
            self.assertEqual(weekday_in(-1, 11, weekday, 1), (-1, 11, first))
            self.assertEqual(weekday_in(-1, 11, weekday, 3), (-1, 11, first + 18))
            fourth = (-1, 11, first + 27) if weekday in (5, 6, 7, 8) else None
            self.assertEqual(weekday_in(-1, 11, weekday, 4), fourth)

    def test_month_four_of_a_long_year_and_another(self):
        # Day 33 of month 4 of the year nought has the weekday 8; in the year 1 day 32 has the weekday 5.
        self.assertEqual(weekday_in(0, 4, 8, 4), (0, 4, 33))
        self.assertIsNone(weekday_in(0, 4, 0, 4))
        self.assertEqual(weekday_in(1, 4, 5, 4), (1, 4, 32))
        self.assertIsNone(weekday_in(1, 4, 6, 4))

    def test_each_which_of_each_month(self):
        for year in LONG_YEARS + OTHER_YEARS:
            for month in range(1, 12):
                # The numbers are counted on from the month's first day, so the weekdays are known from it.
                first_number = number_of((year, month, 1))
                for weekday in range(9):
                    days = [day for day in range(1, length_of(year, month) + 1)
                            if (first_number + day - 1) % 9 == weekday]
                    self.assertIn(len(days), (3, 4))
                    for which in range(-1, 6):
                        expected = (year, month, days[which - 1]) if 1 <= which <= len(days) else None
                        self.assertEqual(weekday_in(year, month, weekday, which), expected)

    def test_the_answer_has_the_weekday(self):
        for year in LONG_YEARS + OTHER_YEARS:
            for month in range(1, 12):
                found = 0
                for weekday in range(9):
                    for which in range(1, 5):
                        date = weekday_in(year, month, weekday, which)
                        if date is not None:
                            found += 1
                            self.assertTrue(is_date(date[0], date[1], date[2]))
                            self.assertEqual(date[:2], (year, month))
                            self.assertEqual(weekday_of(date), weekday)
                self.assertEqual(found, length_of(year, month))

    def test_which_far_off(self):
        for year in (-210, -5, -1, 0, 1, 5, 30, LARGEST, -LARGEST):
            for month in range(1, 12):
                for weekday in range(9):
                    for number in [5, 6, 9, 10, 100] + LARGE_NUMBERS:
                        self.assertIsNone(weekday_in(year, month, weekday, number))
                        self.assertIsNone(weekday_in(year, month, weekday, -number))

    def test_kinds_of_the_answer(self):
        found = weekday_in(5, 4, 3, 2)
        self.assertIs(type(found), tuple)
        self.assertEqual([type(part) for part in found], [int, int, int])


class Arguments(unittest.TestCase):
    def test_arguments_bear_their_names(self):
        self.assertEqual(months_on(date=(1, 1, 35), many=1), (1, 2, 32))
        self.assertEqual(weekday_in(year=0, month=1, weekday=2, which=3), (0, 1, 21))

    def test_nothing_handed_in_is_changed(self):
        date = (5, 4, 33)
        first = (months_on(date, 11), months_on(date, -LARGEST))
        self.assertEqual(date, (5, 4, 33))
        self.assertEqual((months_on(date, 11), months_on(date, -LARGEST)), first)
