import unittest

from marshyear.days import date_of, number_of, weekday_of
from marshyear.years import is_date

# What the document says, written out here so that the tests don't lean on the program's own tables.
MONTH_LENGTHS = [35, 32, 35, 32, 35, 32, 35, 32, 35, 32, 31]

# 210 years have 210 * 366 days and 36 more, one for each long year among them.
ROUND_YEARS = 210
ROUND_DAYS = 76896

# Counted by hand from the lengths of the years between.
NUMBERS_OF_FIRST_DAYS = {
    -211: -77262, -210: -76896, -209: -76529,
    -61: -22336, -60: -21970, -59: -21604,
    -31: -11351, -30: -10985, -29: -10619,
    -10: -3662, -9: -3295,
    -6: -2197, -5: -1831, -4: -1464, -3: -1098, -2: -732, -1: -366,
    0: 0, 1: 367, 2: 733, 3: 1099, 4: 1465, 5: 1831, 6: 2198,
    10: 3662, 11: 4029,
    30: 10986, 31: 11352, 60: 21971, 61: 22337,
    209: 76530, 210: 76896, 211: 77263, 420: 153792, 2100: 768960, -2100: -768960,
}

LARGEST = 10**100 - 1


def with_both_signs(numbers):
    return numbers + [-number for number in numbers]


SMALL_EDGES = with_both_signs([5, 10, 25, 30, 35, 60, 90, 180, 205, 210, 215, 240, 420, 630, 1050, 2100, 6300]) + [0]
LARGE_EDGES = with_both_signs([
    10**20, 3 * 10**20, 21 * 10**20, 10**50 + 5, 5 * 10**60 + 5, 10**99, 3 * 10**99, 9 * 10**99, LARGEST - 4,
    21 * 10**98, 21 * 10**98 + 5, 21 * 10**98 + 30, 21 * 10**98 - 30, 21 * 10**98 + 210, 42 * 10**98,
])
EDGE_YEARS = SMALL_EDGES + LARGE_EDGES
OTHER_YEARS = with_both_signs([1, 2, 3, 7, 14, 21, 211, 10**9 + 1, 2**64, 10**99 + 1, LARGEST, 10**120 + 7])

LARGE_NUMBERS = with_both_signs([
    10**9, 2**31 - 1, 2**32, 2**53 + 1, 2**63, 2**64 + 1, 10**20, 10**30 + 366, 10**50 - 1, 10**75 + 12345,
    10**99, 10**99 + 1, 76896 * 10**95, 76896 * 10**95 - 1, 123456789 * 10**91 + 76895, LARGEST, LARGEST - 1,
    10**100, 10**120 + 11,
])


def is_long_year(year):
    if year % 210 == 0:
        return True
    return year % 5 == 0 and year % 30 != 0


def length_of(year, month):
    return MONTH_LENGTHS[month - 1] + (1 if month == 4 and is_long_year(year) else 0)


def next_date(date):
    year, month, day = date
    if day < length_of(year, month):
        return (year, month, day + 1)
    if month < 11:
        return (year, month + 1, 1)
    return (year + 1, 1, 1)


def dates_of_year(year):
    return [(year, month, day) for month in range(1, 12) for day in range(1, length_of(year, month) + 1)]


class Numbers(unittest.TestCase):
    def test_named_numbers(self):
        for number, date in ((0, (0, 1, 1)), (-1, (-1, 11, 31)), (366, (0, 11, 31))):
            self.assertEqual(date_of(number), date)
            self.assertEqual(number_of(date), number)

    def test_first_and_last_days_of_years(self):
        for year, number in NUMBERS_OF_FIRST_DAYS.items():
            self.assertEqual(number_of((year, 1, 1)), number, year)
            self.assertEqual(date_of(number), (year, 1, 1), year)
            self.assertEqual(number_of((year - 1, 11, 31)), number - 1, year)
            self.assertEqual(date_of(number - 1), (year - 1, 11, 31), year)

    def test_first_days_of_the_months_of_a_long_year(self):
        firsts = [0, 35, 67, 102, 135, 170, 202, 237, 269, 304, 336]
        for month, number in enumerate(firsts, start=1):
            self.assertEqual(number_of((0, month, 1)), number, month)
            self.assertEqual(date_of(number), (0, month, 1), month)

    def test_first_days_of_the_months_of_another_year(self):
        firsts = [367, 402, 434, 469, 501, 536, 568, 603, 635, 670, 702]
        for month, number in enumerate(firsts, start=1):
            self.assertEqual(number_of((1, month, 1)), number, month)
            self.assertEqual(date_of(number), (1, month, 1), month)

    def test_last_days_of_month_four(self):
        for date, after in (((0, 4, 33), (0, 5, 1)), ((1, 4, 32), (1, 5, 1)), ((-5, 4, 33), (-5, 5, 1)),
                            ((-30, 4, 32), (-30, 5, 1)), ((30, 4, 32), (30, 5, 1)), ((210, 4, 33), (210, 5, 1))):
            self.assertEqual(date_of(number_of(date) + 1), after)
            self.assertEqual(date_of(number_of(after) - 1), date)

    def test_a_run_of_numbers_one_after_another(self):
        date = (-2 * ROUND_YEARS, 1, 1)
        for number in range(-2 * ROUND_DAYS, 2 * ROUND_DAYS + 400):
            if number == 0:
                self.assertEqual(date, (0, 1, 1))
            found = date_of(number)
            if found != date or number_of(date) != number or not is_date(found[0], found[1], found[2]):
                self.fail(f"{number}: {date} expected, {found} answered, its number {number_of(date)}")
            date = next_date(date)

    def test_each_day_of_a_year(self):
        for year in EDGE_YEARS + OTHER_YEARS:
            first = number_of((year, 1, 1))
            for number, date in enumerate(dates_of_year(year) + [(year + 1, 1, 1)], start=first):
                self.assertEqual(number_of(date), number, date)
                self.assertEqual(date_of(number), date, number)

    def test_about_the_first_days_of_years(self):
        for year in EDGE_YEARS:
            for first_year in (year - 1, year, year + 1):
                number = number_of((first_year, 1, 1))
                self.assertEqual(date_of(number - 2), (first_year - 1, 11, 30))
                self.assertEqual(date_of(number - 1), (first_year - 1, 11, 31))
                self.assertEqual(date_of(number), (first_year, 1, 1))
                self.assertEqual(date_of(number + 1), (first_year, 1, 2))

    def test_large_rounds(self):
        for rounds in with_both_signs([1, 2, 10, 10**20, 10**50 + 3, 10**97, 4 * 10**97 + 1, 10**110]):
            for date, number in (((0, 1, 1), 0), ((0, 11, 31), 366), ((-1, 11, 31), -1), ((5, 4, 33), 1965),
                                 ((30, 1, 1), 10986), ((209, 11, 31), 76895)):
                moved = (date[0] + rounds * ROUND_YEARS, date[1], date[2])
                self.assertEqual(number_of(moved), number + rounds * ROUND_DAYS)
                self.assertEqual(date_of(number + rounds * ROUND_DAYS), moved)

    def test_large_numbers(self):
        for number in LARGE_NUMBERS:
            for near in range(number - 3, number + 4):
                date = date_of(near)
                self.assertTrue(is_date(date[0], date[1], date[2]), near)
                self.assertEqual(number_of(date), near)
                self.assertEqual(date_of(near + 1), next_date(date), near)

    def test_large_numbers_by_steps_of_months_and_years(self):
        for number in LARGE_NUMBERS:
            for step in (31, 32, 33, 34, 35, 366, 367, 1831, 10985, 76895, 76896):
                self.assertEqual(number_of(date_of(number + step)), number + step)
                self.assertEqual(number_of(date_of(number - step)), number - step)

    def test_numbers_near_nought(self):
        for number in range(-2000, 2000):
            self.assertEqual(number_of(date_of(number)), number)

    def test_the_earlier_date_has_the_lesser_number(self):
        years = sorted(EDGE_YEARS + OTHER_YEARS + [-2, -1, 1, 2, 3, 4])
        dates = []
        for year in sorted(set(years)):
            dates += [(year, 1, 1), (year, 1, 35), (year, 2, 1), (year, 4, 32)]
            dates += [(year, 4, 33)] if is_long_year(year) else []
            dates += [(year, 5, 1), (year, 10, 32), (year, 11, 1), (year, 11, 30), (year, 11, 31)]
        numbers = [number_of(date) for date in dates]
        for ahead, behind in zip(numbers, numbers[1:]):
            self.assertLess(ahead, behind)

    def test_year_counts_ahead_of_month_and_month_ahead_of_day(self):
        self.assertLess(number_of((1, 11, 31)), number_of((2, 1, 1)))
        self.assertLess(number_of((-2, 11, 31)), number_of((-1, 1, 1)))
        self.assertLess(number_of((3, 2, 32)), number_of((3, 3, 1)))
        self.assertLess(number_of((-3, 2, 4)), number_of((-3, 2, 5)))

    def test_kinds_of_the_answers(self):
        for number in (0, -1, 366, LARGEST, -LARGEST):
            date = date_of(number)
            self.assertIs(type(date), tuple)
            self.assertEqual([type(part) for part in date], [int, int, int])
            self.assertIs(type(number_of(date)), int)


class Weekdays(unittest.TestCase):
    def test_about_the_first_day_of_the_year_nought(self):
        expected = {
            (-1, 11, 22): 8, (-1, 11, 23): 0, (-1, 11, 24): 1, (-1, 11, 30): 7, (-1, 11, 31): 8,
            (0, 1, 1): 0, (0, 1, 2): 1, (0, 1, 9): 8, (0, 1, 10): 0, (0, 1, 35): 7, (0, 2, 1): 8, (0, 2, 2): 0,
            (0, 4, 33): 8, (0, 5, 1): 0, (0, 11, 31): 6, (1, 1, 1): 7,
        }
        for date, weekday in expected.items():
            self.assertEqual(weekday_of(date), weekday, date)

    def test_first_days_of_years(self):
        # By the numbers of NUMBERS_OF_FIRST_DAYS: 1831 is 203 times nine and 4, -1831 is -204 times nine and 5.
        expected = {-5: 5, -4: 3, -3: 0, -2: 6, -1: 3, 1: 7, 2: 4, 3: 1, 4: 7, 5: 4, 6: 2, 30: 6, 31: 3, -30: 4}
        for year, weekday in expected.items():
            self.assertEqual(weekday_of((year, 1, 1)), weekday, year)

    def test_weekdays_come_again_after_a_round(self):
        # Nine divides the days of 210 years.
        for rounds in with_both_signs([1, 2, 10**20, 10**97, 10**110]):
            for date, weekday in (((0, 1, 1), 0), ((-1, 11, 31), 8), ((0, 11, 31), 6), ((2, 1, 1), 4), ((30, 1, 1), 6)):
                moved = (date[0] + rounds * ROUND_YEARS, date[1], date[2])
                self.assertEqual(weekday_of(moved), weekday, moved)

    def test_weekdays_run_on_over_months_and_years(self):
        for year in [-31, -30, -6, -5, -2, -1, 0, 1, 4, 5, 29, 30, 209, 210] + LARGE_EDGES + OTHER_YEARS:
            date = (year, 1, 1)
            while date != (year + 1, 1, 3):
                after = next_date(date)
                weekday = weekday_of(date)
                self.assertIn(weekday, list(range(9)), date)
                self.assertEqual(weekday_of(after), 0 if weekday == 8 else weekday + 1, after)
                date = after

    def test_weekdays_of_numbers(self):
        for number in list(range(-1000, 1000)) + LARGE_NUMBERS:
            weekday = weekday_of(date_of(number))
            self.assertTrue(0 <= weekday <= 8, number)
            self.assertEqual((number - weekday) % 9, 0, number)

    def test_kind_of_the_answer(self):
        self.assertIs(type(weekday_of((-1, 11, 31))), int)


class Arguments(unittest.TestCase):
    def test_arguments_bear_their_names(self):
        self.assertEqual(number_of(date=(0, 11, 31)), 366)
        self.assertEqual(date_of(number=366), (0, 11, 31))
        self.assertEqual(weekday_of(date=(-1, 11, 31)), 8)

    def test_nothing_handed_in_is_changed(self):
        date = (10**99, 4, 33)
        number = -LARGEST
        first = (number_of(date), weekday_of(date), date_of(number))
        self.assertEqual((date, number), ((10**99, 4, 33), 1 - 10**100))
        self.assertEqual((number_of(date), weekday_of(date), date_of(number)), first)
