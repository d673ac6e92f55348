"""The calendar: years, months and days, and the numbers of days."""

from headerfold.errors import BadDate, BadNumber
from headerfold.marks import is_between

# December 31 of the year 9999 has this number.
LAST_NUMBER = 3652059

_LENGTHS = (31, 28, 31, 30, 31, 30, 31, 31, 30, 31, 30, 31)
_DAYS_OF_400_YEARS = 146097
_DAYS_OF_100_YEARS = 36524
_DAYS_OF_4_YEARS = 1461


def is_leap(year):
    """Whether a year has a February 29."""
    _check_year(year)
    return _has_29(year)


def days_in(year, month):
    """The length of a month."""
    _check_year(year)
    if not is_between(month, 1, 12):
        raise BadDate(month)
    return _length_of(year, month)


def day_number(year, month, day):
    """The number of a day; January 1 of the year 1 has the number 1."""
    if not is_between(day, 1, days_in(year, month)):
        raise BadDate(day)
    return _first_number(year) + sum([_length_of(year, one) for one in range(1, month)]) + day - 1


def date_of(number):
    """The year, the month and the day that have this number."""
    if not is_number_of_day(number):
        raise BadNumber(number)
    year = _year_of(number)
    rest = number - _first_number(year)
    month = 1
    while rest >= _length_of(year, month):
        rest = rest - _length_of(year, month)
        month = month + 1
    return year, month, rest + 1


def weekday_of(number):
    """The weekday of the day with this number, 0 for Monday."""
    if not is_number_of_day(number):
        raise BadNumber(number)
    return (number - 1) % 7


def is_number_of_day(thing):
    """Whether this is the number of a day of the years 1 to 9999."""
    return is_between(thing, 1, LAST_NUMBER)


def _check_year(year):
    if not is_between(year, 1, 9999):
        raise BadDate(year)


def _has_29(year):
    return year % 4 == 0 and (year % 100 != 0 or year % 400 == 0)


def _length_of(year, month):
    """The length of a month that is surely right."""
    if month == 2 and _has_29(year):
        return 29
    return _LENGTHS[month - 1]


def _first_number(year):
    """The number of January 1."""
    before = year - 1
    return 365 * before + before // 4 - before // 100 + before // 400 + 1


def _year_of(number):
    """The year of the day with this number."""
    fours, rest = divmod(number - 1, _DAYS_OF_400_YEARS)
    # The last of four centuries, and the last of four years, can have one day more than the others.
    centuries = min(rest // _DAYS_OF_100_YEARS, 3)
    rest = rest - centuries * _DAYS_OF_100_YEARS
    leaps, rest = divmod(rest, _DAYS_OF_4_YEARS)
    return fours * 400 + centuries * 100 + leaps * 4 + min(rest // 365, 3) + 1
