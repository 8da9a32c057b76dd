"""How a date is written, and how a line is read."""

from marshyear.errors import NoDate
from marshyear.years import is_date


def shown(date):
    year = date[0]
    month = date[1]
    day = date[2]
    return f"{year}.{month}.{day}"


def read(line):
    parts = line.split(".")
    if len(parts) != 3:
        raise NoDate(f"not a year, a month and a day: {line!r}")
    date = (whole_number(parts[0]), whole_number(parts[1]), whole_number(parts[2]))
    if not is_date(date[0], date[1], date[2]):
        raise NoDate(f"no such date: {line!r}")
    # The numbers are read with a free hand (blanks, noughts ahead, `+`, `_`), so the line must be the written date.
    if shown(date) != line:
        raise NoDate(f"not as a date is written: {line!r}")
    return date


def whole_number(figures):
    try:
        return int(figures)
    except ValueError:
        raise NoDate(f"not a whole number: {figures!r}") from None
