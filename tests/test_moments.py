"""The class Moment of headerfold.moments: point [30] and the interface."""

import datetime
import inspect
import itertools
import unittest

from headerfold.calendar import day_number
from headerfold.errors import BadContent, BadDate, BadNumber
from headerfold.moments import Moment, moment_pieces
from headerfold.texts import Text
from tests.support import Agreeable, check_error, wrong_objects

NO_NUMBERS = wrong_objects() + ["1", "", (), (1,), 2.0, Text("a"), 10 ** 399, -10 ** 399]
ZONES = (-899, -720, -1, 0, 1, 60, 330, 899)
DAY = 86400
FIELDS = ("year", "month", "day", "hour", "minute", "second", "zone")


def numbers_of(moment):
    return tuple(getattr(moment, field) for field in FIELDS)


def as_datetime(moment):
    """The same moment as an object of the library, without its zone."""
    return datetime.datetime(*numbers_of(moment)[:6])


def sample_moments():
    for date, time, zone in itertools.product(
            ((1, 1, 3), (4, 2, 29), (1900, 2, 28), (1999, 12, 31), (2000, 1, 1), (2024, 2, 29), (2100, 3, 1),
             (9999, 12, 29)), ((0, 0, 0), (12, 30, 15), (23, 59, 59)), ZONES):
        yield Moment(*date, *time, zone=zone)


class Making(unittest.TestCase):
    def test_interface(self):
        parameters = inspect.signature(Moment).parameters
        self.assertEqual(list(parameters), list(FIELDS))
        self.assertEqual([parameters[name].default for name in FIELDS[3:]], [0, 0, 0, 0])
        self.assertEqual(parameters["zone"].kind, inspect.Parameter.KEYWORD_ONLY)
        for name in (*FIELDS, "weekday", "instant", "is_before", "at_zone", "__add__", "__sub__", "__eq__"):
            self.assertIn(name, vars(Moment))
        for name in (*FIELDS, "weekday", "instant"):
            self.assertIsInstance(vars(Moment)[name], property)
        with self.assertRaises(TypeError):
            Moment(2022, 3, 7, 9, 5, 3, 60)

    def test_numbers(self):
        self.assertEqual(numbers_of(Moment(2022, 3, 7)), (2022, 3, 7, 0, 0, 0, 0))
        self.assertEqual(numbers_of(Moment(2022, 3, 7, 9, 5, 3, zone=60)), (2022, 3, 7, 9, 5, 3, 60))
        self.assertEqual(numbers_of(Moment(2022, 3, 7, zone=-5)), (2022, 3, 7, 0, 0, 0, -5))
        named = Moment(second=3, minute=5, hour=9, day=7, month=3, year=2022, zone=60)
        self.assertEqual(numbers_of(named), (2022, 3, 7, 9, 5, 3, 60))

    def test_bounds(self):
        self.assertEqual(numbers_of(Moment(1, 1, 1, 0, 0, 0, zone=-899)), (1, 1, 1, 0, 0, 0, -899))
        self.assertEqual(numbers_of(Moment(9999, 12, 31, 23, 59, 59, zone=899)), (9999, 12, 31, 23, 59, 59, 899))
        self.assertEqual(Moment(2024, 2, 29).day, 29)

    def test_each_number_beyond_its_bounds(self):
        right = {"year": 2023, "month": 4, "day": 7, "hour": 9, "minute": 5, "second": 3, "zone": 60}
        for field, bounds in (("year", (0, 10000)), ("month", (0, 13)), ("day", (0, 31)), ("hour", (-1, 24)),
                              ("minute", (-1, 60)), ("second", (-1, 60)), ("zone", (-900, 900))):
            for wrong in (*bounds, *NO_NUMBERS):
                check_error(self, BadDate, "given", wrong, Moment, **{**right, field: wrong})

    def test_day_of_its_month(self):
        for date in ((2023, 2, 29), (2024, 2, 30), (2023, 4, 31), (1900, 2, 29)):
            check_error(self, BadDate, "given", date[2], Moment, *date)

    def test_first_wrong_number(self):
        wrong = [-2000 - place for place in range(7)]
        right = [2023, 4, 7, 9, 5, 3, 60]
        for place in range(7):
            values = right[:place] + wrong[place:]
            check_error(self, BadDate, "given", wrong[place], Moment, *values[:6], zone=values[6])

    def test_weekday(self):
        self.assertEqual([Moment(2026, 11, 16 + place).weekday for place in range(7)], [0, 1, 2, 3, 4, 5, 6])
        self.assertEqual(Moment(1, 1, 1, 23, 59, 59, zone=-899).weekday, 0)
        self.assertEqual(Moment(9999, 12, 31, zone=899).weekday, 4)
        for moment in sample_moments():
            self.assertEqual(moment.weekday, as_datetime(moment).weekday())

    def test_instant(self):
        self.assertEqual(Moment(1, 1, 1).instant, DAY)
        self.assertEqual(Moment(1, 1, 1, 1, 2, 3).instant, DAY + 3723)
        self.assertEqual(Moment(1, 1, 1, zone=60).instant, DAY - 3600)
        self.assertEqual(Moment(1, 1, 1, zone=-60).instant, DAY + 3600)
        for moment in sample_moments():
            seconds = moment.hour * 3600 + moment.minute * 60 + moment.second
            number = day_number(moment.year, moment.month, moment.day)
            self.assertEqual(moment.instant, number * DAY + seconds - moment.zone * 60)


class Equality(unittest.TestCase):
    def test_all_seven_numbers(self):
        right = {"year": 2022, "month": 3, "day": 7, "hour": 9, "minute": 5, "second": 3, "zone": 60}
        self.assertIs(Moment(**right) == Moment(**right), True)
        self.assertIs(Moment(**right) != Moment(**right), False)
        for field in FIELDS:
            other = {**right, field: right[field] + 1}
            self.assertIs(Moment(**right) == Moment(**other), False)
            self.assertIs(Moment(**right) != Moment(**other), True)

    def test_equal_instants_in_two_zones(self):
        one, other = Moment(2022, 3, 7, 9), Moment(2022, 3, 7, 10, zone=60)
        self.assertEqual(one.instant, other.instant)
        self.assertIs(one == other, False)

    def test_other_objects(self):
        moment = Moment(2022, 3, 7)
        for other in [one for one in wrong_objects() if one.__class__ is not Agreeable] + [1, "", (2022, 3, 7)]:
            self.assertIs(Moment.__eq__(moment, other), False)


class Adding(unittest.TestCase):
    def test_example(self):
        later = Moment(2022, 3, 7, 9, 5, 3, zone=60) + 86400
        self.assertEqual(" ".join(moment_pieces(later)), "Tue, 8 Mar 2022 09:05:03 +0100")

    def test_across_minutes_hours_days_months_and_years(self):
        for seconds, numbers in (
                (0, (2023, 12, 31, 23, 59, 58)), (1, (2023, 12, 31, 23, 59, 59)), (2, (2024, 1, 1, 0, 0, 0)),
                (-59, (2023, 12, 31, 23, 58, 59)), (-DAY, (2023, 12, 30, 23, 59, 58)),
                (60 * DAY, (2024, 2, 29, 23, 59, 58)), (61 * DAY, (2024, 3, 1, 23, 59, 58)),
                (-365 * DAY, (2022, 12, 31, 23, 59, 58)), (366 * DAY, (2024, 12, 31, 23, 59, 58)),
                (3602, (2024, 1, 1, 1, 0, 0)), (62, (2024, 1, 1, 0, 1, 0)), (-(DAY - 2), (2023, 12, 31, 0, 0, 0))):
            for zone in ZONES:
                later = Moment(2023, 12, 31, 23, 59, 58, zone=zone) + seconds
                self.assertEqual(numbers_of(later), (*numbers, zone))

    def test_against_the_library(self):
        for moment in sample_moments():
            for seconds in (0, 1, -1, 59, 3600, -3601, DAY, -DAY, 29 * DAY + 7, 1000 * DAY - 1, -40 * DAY):
                try:
                    expected = as_datetime(moment) + datetime.timedelta(seconds=seconds)
                except OverflowError:
                    check_error(self, BadNumber, "given", seconds, moment.__add__, seconds)
                    continue
                later = moment + seconds
                self.assertEqual(as_datetime(later), expected)
                self.assertEqual(later.zone, moment.zone)
                self.assertEqual(later.instant - moment.instant, seconds)
                self.assertEqual(later - moment, seconds)
                self.assertEqual(moment - later, -seconds)
                self.assertEqual(later + -seconds, moment)

    def test_nothing_is_changed(self):
        moment = Moment(2022, 3, 7, 9, 5, 3, zone=60)
        moment + 5
        moment.at_zone(0)
        self.assertEqual(numbers_of(moment), (2022, 3, 7, 9, 5, 3, 60))

    def test_beyond_the_years(self):
        first, last = Moment(1, 1, 1, zone=-899), Moment(9999, 12, 31, 23, 59, 59, zone=899)
        span = last - first
        self.assertEqual(span, 3652059 * DAY - 1 - 2 * 899 * 60)
        for moment, wrong in ((first, -1), (last, 1), (first, 3652059 * DAY), (last, -3652059 * DAY),
                              (first, 10 ** 399), (first, -10 ** 399)):
            check_error(self, BadNumber, "given", wrong, moment.__add__, wrong)
        self.assertEqual(first + (3652059 * DAY - 1), Moment(9999, 12, 31, 23, 59, 59, zone=-899))
        self.assertEqual(last + -(3652059 * DAY - 1), Moment(1, 1, 1, zone=899))

    def test_no_integers(self):
        moment = Moment(2022, 3, 7)
        for wrong in wrong_objects() + ["1", (), (1,), moment, Text("a")]:
            check_error(self, BadNumber, "given", wrong, moment.__add__, wrong)
            with self.assertRaises(BadNumber):
                moment + wrong


class Others(unittest.TestCase):
    def test_difference(self):
        one = Moment(2022, 3, 7, 9, 5, 3, zone=60)
        self.assertEqual(one - one, 0)
        self.assertEqual(one - Moment(2022, 3, 7, 9, 5, 3), -3600)
        self.assertEqual(Moment(2022, 3, 7, 9, 5, 3) - one, 3600)
        self.assertEqual(Moment(2022, 3, 8) - Moment(2022, 3, 7), DAY)
        for wrong in (1, "a", None):
            with self.assertRaises(TypeError):
                one - wrong

    def test_is_before(self):
        one = Moment(2022, 3, 7, 9, 5, 3, zone=60)
        self.assertIs(one.is_before(one + 1), True)
        self.assertIs((one + 1).is_before(one), False)
        self.assertIs(one.is_before(one), False)
        self.assertIs(one.is_before(other=Moment(2022, 3, 7, 8, 5, 3)), False)
        self.assertIs(one.is_before(Moment(2022, 3, 7, 8, 5, 4)), True)
        for wrong in wrong_objects() + [0, "a", (2022, 3, 7), one.instant]:
            check_error(self, BadContent, "given", wrong, one.is_before, wrong)

    def test_at_zone(self):
        one = Moment(2022, 3, 1, 0, 30, 3, zone=60)
        self.assertEqual(one.at_zone(60), one)
        self.assertEqual(one.at_zone(0), Moment(2022, 2, 28, 23, 30, 3))
        self.assertEqual(one.at_zone(zone=-90), Moment(2022, 2, 28, 22, 0, 3, zone=-90))
        self.assertEqual(one.at_zone(899), Moment(2022, 3, 1, 14, 29, 3, zone=899))
        for moment, zone in itertools.product(sample_moments(), ZONES):
            there = moment.at_zone(zone)
            self.assertEqual((there.instant, there.zone), (moment.instant, zone))
            self.assertEqual(there.at_zone(moment.zone), moment)

    def test_no_zone(self):
        one = Moment(1, 1, 1)
        for wrong in NO_NUMBERS + [900, -900]:
            check_error(self, BadDate, "given", wrong, one.at_zone, wrong)

    def test_zones_beyond_the_years(self):
        check_error(self, BadNumber, "given", -1, Moment(1, 1, 1).at_zone, -1)
        check_error(self, BadNumber, "given", 1, Moment(9999, 12, 31, 23, 59, 59).at_zone, 1)
        check_error(self, BadNumber, "given", -899, Moment(1, 1, 1, 14, 58).at_zone, -899)
        self.assertEqual(Moment(1, 1, 1, 14, 59).at_zone(-899), Moment(1, 1, 1, zone=-899))
        self.assertEqual(Moment(1, 1, 1).at_zone(1), Moment(1, 1, 1, 0, 1, zone=1))
        self.assertEqual(Moment(9999, 12, 31, 23, 58, 59).at_zone(1), Moment(9999, 12, 31, 23, 59, 59, zone=1))

    def test_instants_may_lie_beyond_the_years(self):
        self.assertEqual(Moment(1, 1, 1, zone=899) - Moment(1, 1, 1), -899 * 60)
        self.assertIs(Moment(9999, 12, 31, 23, 59, 59).is_before(Moment(9999, 12, 31, 23, 59, 59, zone=-1)), True)


if __name__ == "__main__":
    unittest.main()
