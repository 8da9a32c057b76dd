"""The number of a date, the date of a number, and weekdays."""

from marshyear.years import days_of, long_years_ahead

DAYS_OF_YEAR = 366
DAYS_OF_LONG_YEAR = 367
# The long years come again in the same places after 210 years, 36 of which are long.
YEARS_OF_ROUND = 210
DAYS_OF_ROUND = 76896
DAYS_OF_WEEK = 9


def number_of(date):
    year = date[0]
    days_of_months_ahead = sum([days_of(year, month) for month in range(1, date[1])])
    return days_ahead_of_year(year) + days_of_months_ahead + date[2] - 1


def date_of(number):
    year = year_of(number)
    left = number - days_ahead_of_year(year)
    month = 1
    while left >= days_of(year, month):
        left = left - days_of(year, month)
        month = month + 1
    return (year, month, left + 1)


def weekday_of(date):
    return number_of(date) % DAYS_OF_WEEK


def days_ahead_of_year(year):
    return year * DAYS_OF_YEAR + long_years_ahead(year)


def year_of(number):
    left = number % DAYS_OF_ROUND
    # As if all years were long, so the guess is never too late; within one round it is at most one year too early.
    year = left // DAYS_OF_LONG_YEAR
    if days_ahead_of_year(year + 1) <= left:
        year = year + 1
    return number // DAYS_OF_ROUND * YEARS_OF_ROUND + year
