"""headerfold.calendar: point [30], Fact 8, and the interface."""

import datetime
import inspect
import unittest

from headerfold import calendar
from headerfold.calendar import date_of, day_number, days_in, is_leap, weekday_of
from headerfold.errors import BadDate, BadNumber
from headerfold.texts import Text
from tests.support import check_error, wrong_objects

LAST = 3652059
NO_NUMBERS = wrong_objects() + ["1", "", (), (1,), 2.0, Text("a")]
NO_YEARS = NO_NUMBERS + [0, -1, 10000, 10 ** 399, -10 ** 399]
NO_MONTHS = NO_NUMBERS + [0, -1, 13, 10 ** 399]
NO_DAYS = NO_NUMBERS + [0, -1, 32, 10 ** 399]


class Interface(unittest.TestCase):
    def test_names_and_parameters(self):
        for name, parameters in {"is_leap": ["year"], "days_in": ["year", "month"],
                                 "day_number": ["year", "month", "day"], "date_of": ["number"],
                                 "weekday_of": ["number"]}.items():
            function = getattr(calendar, name)
            self.assertEqual(function.__module__, "headerfold.calendar")
            self.assertEqual(list(inspect.signature(function).parameters), parameters)

    def test_by_name(self):
        self.assertIs(is_leap(year=2024), True)
        self.assertEqual(days_in(month=2, year=2024), 29)
        self.assertEqual(day_number(day=1, month=1, year=1), 1)
        self.assertEqual(date_of(number=1), (1, 1, 1))
        self.assertEqual(weekday_of(number=1), 0)


class Years(unittest.TestCase):
    def test_leap_years_of_all_rules(self):
        for year, answer in ((2023, False), (2024, True), (1900, False), (2000, True), (2100, False), (2400, True),
                             (1, False), (4, True), (100, False), (400, True), (9999, False), (9996, True)):
            self.assertIs(is_leap(year), answer)

    def test_every_year(self):
        for year in range(1, 10000):
            is_right = year % 400 == 0 or (year % 4 == 0 and year % 100 > 0)
            self.assertIs(is_leap(year), is_right)
            self.assertEqual(day_number(year, 12, 31) - day_number(year, 1, 1), 365 if is_right else 364)

    def test_lengths_of_months(self):
        usual = [31, 28, 31, 30, 31, 30, 31, 31, 30, 31, 30, 31]
        for year in (1, 1900, 2023, 9999):
            self.assertEqual([days_in(year, month) for month in range(1, 13)], usual)
        for year in (4, 2000, 2024):
            self.assertEqual([days_in(year, month) for month in range(1, 13)], [31, 29, *usual[2:]])


class Numbers(unittest.TestCase):
    def test_first_and_last_day(self):
        self.assertEqual(day_number(1, 1, 1), 1)
        self.assertEqual(date_of(1), (1, 1, 1))
        self.assertEqual(weekday_of(1), 0)
        self.assertEqual(day_number(9999, 12, 31), LAST)
        self.assertEqual(date_of(LAST), (9999, 12, 31))
        self.assertEqual(weekday_of(LAST), 4)

    def test_fact_eight(self):
        for year in range(1, 10000):
            n = year - 1
            self.assertEqual(day_number(year, 1, 1), 365 * n + n // 4 - n // 100 + n // 400 + 1)

    def test_ends_of_years_and_months(self):
        for year in (*range(1, 420), *range(1890, 2110), *range(9580, 10000)):
            for month, day in ((1, 1), (1, 31), (2, 28), (2, days_in(year, 2)), (3, 1), (11, 30), (12, 1), (12, 31)):
                number = datetime.date(year, month, day).toordinal()
                self.assertEqual(day_number(year, month, day), number)
                self.assertEqual(date_of(number), (year, month, day))

    def test_days_in_a_row(self):
        for first in (1, 36524, 109572, 145732, 730000, LAST - 1500):
            for number in range(first, min(first + 1501, LAST + 1)):
                day = datetime.date.fromordinal(number)
                self.assertEqual(date_of(number), (day.year, day.month, day.day))
                self.assertEqual(day_number(*date_of(number)), number)
                self.assertEqual(weekday_of(number), day.weekday())

    def test_days_here_and_there(self):
        for number in range(1, LAST + 1, 367):
            day = datetime.date.fromordinal(number)
            self.assertEqual(date_of(number), (day.year, day.month, day.day))
            self.assertEqual(day_number(day.year, day.month, day.day), number)
            self.assertEqual(weekday_of(number), day.weekday())

    def test_kinds_of_the_answers(self):
        self.assertIs(date_of(5).__class__, tuple)
        self.assertEqual([one.__class__ for one in date_of(5)], [int, int, int])
        self.assertEqual([one.__class__ for one in (days_in(1, 1), day_number(1, 1, 1), weekday_of(1))], [int] * 3)


class Errors(unittest.TestCase):
    def test_year_first(self):
        for year in NO_YEARS:
            check_error(self, BadDate, "given", year, is_leap, year)
            check_error(self, BadDate, "given", year, days_in, year, 1)
            check_error(self, BadDate, "given", year, days_in, year, None)
            check_error(self, BadDate, "given", year, day_number, year, 1, 1)
            check_error(self, BadDate, "given", year, day_number, year, None, None)

    def test_then_the_month(self):
        for month in NO_MONTHS:
            check_error(self, BadDate, "given", month, days_in, 2024, month)
            check_error(self, BadDate, "given", month, day_number, 2024, month, 1)
            check_error(self, BadDate, "given", month, day_number, 2024, month, None)

    def test_then_the_day(self):
        for day in NO_DAYS:
            check_error(self, BadDate, "given", day, day_number, 2024, 1, day)
        for year, month, day in ((2023, 2, 29), (2024, 2, 30), (1900, 2, 29), (2000, 2, 30), (2024, 4, 31)):
            check_error(self, BadDate, "given", day, day_number, year, month, day)
            self.assertEqual(date_of(day_number(year, month, day - 1)), (year, month, day - 1))

    def test_numbers_of_no_day(self):
        for number in NO_NUMBERS + [0, -1, LAST + 1, 10 ** 399, -10 ** 399]:
            check_error(self, BadNumber, "given", number, date_of, number)
            check_error(self, BadNumber, "given", number, weekday_of, number)


if __name__ == "__main__":
    unittest.main()
