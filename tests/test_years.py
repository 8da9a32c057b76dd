import unittest

from marshyear.years import days_of, is_date, is_long

# What the document says, written out here so that the tests don't lean on the program's own tables.
DAYS_IN_LONG_YEAR = {1: 35, 2: 32, 3: 35, 4: 33, 5: 35, 6: 32, 7: 35, 8: 32, 9: 35, 10: 32, 11: 31}
DAYS_IN_OTHER_YEAR = {1: 35, 2: 32, 3: 35, 4: 32, 5: 35, 6: 32, 7: 35, 8: 32, 9: 35, 10: 32, 11: 31}

NAMED_LONG = [5, 25, 210, 0, -5, -210]
NAMED_OTHER = [1, 30, 180, -30, -60]

# In each 210 years from a multiple of 210 on, these are the long ones.
LONG_PLACES = [
    0, 5, 10, 15, 20, 25, 35, 40, 45, 50, 55, 65, 70, 75, 80, 85, 95, 100,
    105, 110, 115, 125, 130, 135, 140, 145, 155, 160, 165, 170, 175, 185, 190, 195, 200, 205,
]

LARGEST = 10**100 - 1
# Ten to a power has neither 3 nor 7 in it, so what divides these years is plain from how they are written.
LARGE_LONG = [
    10**20, 10**99, 7 * 10**99, 5 * 10**60 + 5, 10**99 + 25, 10**99 - 5, 2 * 10**99 + 5, LARGEST - 4,
    21 * 10**20, 21 * 10**98, 42 * 10**98, 210 * 10**97, 21 * 10**98 + 5, 21 * 10**98 + 210, 21 * 10**98 - 210,
]
LARGE_OTHER = [
    10**20 + 1, 10**99 + 1, 10**99 - 1, LARGEST, LARGEST - 1, 5 * 10**60 + 4,
    3 * 10**20, 3 * 10**99, 9 * 10**99, 6 * 10**99, 30 * 10**98, 3 * 10**99 + 210,
    21 * 10**98 + 30, 21 * 10**98 - 30, 21 * 10**98 + 180, 21 * 10**98 + 1, 21 * 10**98 - 1,
]
# Somewhat beyond a hundred figures, which is no ground for a refusal.
BEYOND_LONG = [10**120, 21 * 10**120, 10**104 + 5]
BEYOND_OTHER = [3 * 10**120, 10**120 + 1, 21 * 10**120 + 30]


def with_both_signs(numbers):
    return numbers + [-number for number in numbers]


LONG_YEARS = NAMED_LONG + with_both_signs(LARGE_LONG + BEYOND_LONG)
OTHER_YEARS = NAMED_OTHER + with_both_signs(LARGE_OTHER + BEYOND_OTHER)
YEARS_AND_LENGTHS = [(year, DAYS_IN_LONG_YEAR) for year in LONG_YEARS] + [
    (year, DAYS_IN_OTHER_YEAR) for year in OTHER_YEARS
]
LARGE_NUMBERS = with_both_signs([10**9, 2**31, 2**32 + 1, 2**63, 2**64 + 1, 10**50 + 4, 10**99, 10**99 + 1, LARGEST])


class IsLong(unittest.TestCase):
    def test_named_years(self):
        for year in NAMED_LONG:
            self.assertIs(is_long(year), True, year)
        for year in NAMED_OTHER:
            self.assertIs(is_long(year), False, year)

    def test_multiples_of_five_near_nought(self):
        for year in with_both_signs([5, 10, 15, 20, 25, 35, 40, 55, 65, 70, 105, 175, 205, 215, 420, 630]):
            self.assertIs(is_long(year), True, year)

    def test_multiples_of_thirty_near_nought(self):
        for year in with_both_signs([30, 60, 90, 120, 150, 180, 240, 270, 300, 390, 600, 900, 2130]):
            self.assertIs(is_long(year), False, year)

    def test_multiples_of_two_hundred_and_ten_near_nought(self):
        for year in with_both_signs([210, 420, 630, 840, 1050, 2100, 6300]):
            self.assertIs(is_long(year), True, year)

    def test_years_that_five_does_not_divide(self):
        for year in with_both_signs([1, 2, 3, 4, 6, 7, 14, 21, 42, 84, 126, 209, 211, 1001]):
            self.assertIs(is_long(year), False, year)

    def test_each_year_of_a_round(self):
        for start in (0, 210, 2100, -210, -420, -2100, 21 * 10**98, -21 * 10**98):
            for place in range(210):
                self.assertIs(is_long(start + place), place in LONG_PLACES, start + place)

    def test_large_years(self):
        for year in with_both_signs(LARGE_LONG):
            self.assertIs(is_long(year), True, year)
        for year in with_both_signs(LARGE_OTHER):
            self.assertIs(is_long(year), False, year)

    def test_years_beyond_a_hundred_figures(self):
        for year in with_both_signs(BEYOND_LONG):
            self.assertIs(is_long(year), True, year)
        for year in with_both_signs(BEYOND_OTHER):
            self.assertIs(is_long(year), False, year)


class DaysOf(unittest.TestCase):
    def test_each_month_of_a_long_year(self):
        for month, days in DAYS_IN_LONG_YEAR.items():
            self.assertEqual(days_of(5, month), days, month)

    def test_each_month_of_another_year(self):
        for month, days in DAYS_IN_OTHER_YEAR.items():
            self.assertEqual(days_of(1, month), days, month)

    def test_month_four_in_named_years(self):
        for year in NAMED_LONG:
            self.assertEqual(days_of(year, 4), 33, year)
        for year in NAMED_OTHER:
            self.assertEqual(days_of(year, 4), 32, year)

    def test_each_month_of_many_years(self):
        for year, lengths in YEARS_AND_LENGTHS:
            for month, days in lengths.items():
                self.assertEqual(days_of(year, month), days, (year, month))

    def test_answers_are_whole_numbers(self):
        for year in (0, 1):
            for month in range(1, 12):
                self.assertIs(type(days_of(year, month)), int, (year, month))


class IsDate(unittest.TestCase):
    def test_edges_of_each_month(self):
        for year, lengths in YEARS_AND_LENGTHS:
            for month, last in lengths.items():
                for day, expected in ((0, False), (1, True), (last, True), (last + 1, False)):
                    self.assertIs(is_date(year, month, day), expected, (year, month, day))

    def test_each_day_of_each_month(self):
        for year, lengths in ((5, DAYS_IN_LONG_YEAR), (1, DAYS_IN_OTHER_YEAR)):
            for month, last in lengths.items():
                for day in range(-40, 80):
                    expected = day in list(range(1, last + 1))
                    self.assertIs(is_date(year, month, day), expected, (year, month, day))

    def test_day_33_of_month_four(self):
        for year in LONG_YEARS:
            self.assertIs(is_date(year, 4, 33), True, year)
        for year in OTHER_YEARS:
            self.assertIs(is_date(year, 4, 33), False, year)

    def test_day_33_of_the_other_months_is_not_moved_by_a_long_year(self):
        for month in range(1, 12):
            if month != 4:
                self.assertIs(is_date(5, month, 33), is_date(1, month, 33), month)

    def test_months_outside_the_eleven(self):
        for year in (-210, -30, -1, 0, 1, 5, 30):
            for month in (-100, -12, -11, -8, -7, -4, -2, -1, 0, 12, 13, 15, 22, 23, 100):
                for day in (-1, 0, 1, 31, 33, 35):
                    self.assertIs(is_date(year, month, day), False, (year, month, day))

    def test_days_below_nought(self):
        for year in (-5, 0, 1, 5):
            for month in range(1, 12):
                for day in (-1, -2, -31, -32, -33, -35, -36, -1000):
                    self.assertIs(is_date(year, month, day), False, (year, month, day))

    def test_large_years(self):
        for year in LARGE_NUMBERS:
            self.assertIs(is_date(year, 1, 35), True, year)
            self.assertIs(is_date(year, 11, 31), True, year)
            self.assertIs(is_date(year, 11, 32), False, year)
            self.assertIs(is_date(year, 0, 1), False, year)
            self.assertIs(is_date(year, 12, 1), False, year)

    def test_large_months(self):
        for month in LARGE_NUMBERS:
            for year in (0, 1, LARGEST, -LARGEST):
                self.assertIs(is_date(year, month, 1), False, (year, month))

    def test_large_days(self):
        for day in LARGE_NUMBERS:
            for month in range(1, 12):
                for year in (0, 1, LARGEST, -LARGEST):
                    self.assertIs(is_date(year, month, day), False, (year, month, day))

    def test_all_three_large(self):
        for number in LARGE_NUMBERS:
            for other in LARGE_NUMBERS:
                self.assertIs(is_date(number, other, number), False, (number, other))
                self.assertIs(is_date(number, number, other), False, (number, other))


class Arguments(unittest.TestCase):
    def test_arguments_bear_their_names(self):
        self.assertIs(is_long(year=5), True)
        self.assertEqual(days_of(year=5, month=4), 33)
        self.assertIs(is_date(year=5, month=4, day=33), True)

    def test_the_same_is_answered_again(self):
        calls = [(5, 4, 33), (1, 4, 33), (0, 12, 1), (-1, 11, 31)]
        first = [(is_long(y), is_date(y, m, d)) for y, m, d in calls]
        again = [(is_long(y), is_date(y, m, d)) for y, m, d in reversed(calls)]
        self.assertEqual(first, list(reversed(again)))
