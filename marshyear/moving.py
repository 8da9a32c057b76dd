"""Moving a date by months, and the days of a month that have a given weekday."""

from marshyear.days import DAYS_OF_WEEK, weekday_of
from marshyear.years import MONTH_DAYS, days_of


def months_on(date, many):
    # All months in one row, so that going over the end of a year needs no case of its own, in either direction.
    place = date[0] * len(MONTH_DAYS) + date[1] - 1 + many
    year = place // len(MONTH_DAYS)
    month = place % len(MONTH_DAYS) + 1
    return (year, month, min(date[2], days_of(year, month)))


def weekday_in(year, month, weekday, which):
    first = 1 + (weekday - weekday_of((year, month, 1))) % DAYS_OF_WEEK
    day = first + (which - 1) * DAYS_OF_WEEK
    if which < 1 or day > days_of(year, month):
        return None
    return (year, month, day)
