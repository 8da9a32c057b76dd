"""Long years, the lengths of months, and what a date is."""

MONTH_DAYS = (35, 32, 35, 32, 35, 32, 35, 32, 35, 32, 31)
MONTH_THAT_GROWS = 4


def is_long(year):
    # The rest by a divisor above nought is nought for years below nought too, so the sign needs no case of its own.
    if year % 30 == 0:
        return year % 210 == 0
    return year % 5 == 0


def long_years_ahead(year):
    # From the year nought on, and with a minus back from it; counted at one stroke, since years may be huge.
    return multiples_ahead(year, 5) - multiples_ahead(year, 30) + multiples_ahead(year, 210)


def multiples_ahead(year, divisor):
    # Rounded up and not down: nought is a multiple too, and the year itself does not count.
    return -(-year // divisor)


def days_of(year, month):
    days = MONTH_DAYS[month - 1]
    if month == MONTH_THAT_GROWS and is_long(year):
        return days + 1
    return days


def is_date(year, month, day):
    # The month is asked first: a length is there only for the eleven months.
    if month < 1 or month > len(MONTH_DAYS):
        return False
    return 1 <= day <= days_of(year, month)
