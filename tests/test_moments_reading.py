"""headerfold.moments, reading and writing: points [31] and [32], and [33] for moments."""

import inspect
import itertools
import unittest

from headerfold import moments
from headerfold.calendar import days_in
from headerfold.errors import BadBody, BadContent
from headerfold.laying import body_of, lines_of
from headerfold.marks import MARKS
from headerfold.moments import Moment, moment_pieces, read_moment
from headerfold.texts import Text
from tests.support import check_error, wrong_objects
from tests.test_moments import sample_moments

NO_BODIES = wrong_objects() + [(), 0, Text("a"), "\n", "7 Mar\n2022", "\t", "\xe9", "a\x7f", chr(37)]
RIGHT = "Mon, 7 Mar 2022 09:05:03 +0100"
MOMENT = Moment(2022, 3, 7, 9, 5, 3, zone=60)


class Interface(unittest.TestCase):
    def test_names_and_parameters(self):
        for name, parameters in {"read_moment": ["body"], "moment_pieces": ["moment"]}.items():
            function = getattr(moments, name)
            self.assertEqual(function.__module__, "headerfold.moments")
            self.assertEqual(list(inspect.signature(function).parameters), parameters)
        self.assertEqual(read_moment(body=""), (None, ()))
        self.assertEqual(moment_pieces(moment=None), ())

    def test_example(self):
        moment, defects = read_moment("Sun 31 feb 2024 9:30 +0100")
        self.assertEqual((moment.day, moment.hour, moment.zone), (29, 0, 60))
        self.assertEqual(defects, ((0, "weekday"), (3, "comma"), (4, "range"), (16, "time")))

    def test_errors(self):
        for wrong in NO_BODIES:
            check_error(self, BadBody, "given", wrong, read_moment, wrong)
        for wrong in wrong_objects() + ["", "a", (), 0, (2022, 3, 7), Text("a")]:
            if wrong is not None:
                check_error(self, BadContent, "given", wrong, moment_pieces, wrong)


class Reading(unittest.TestCase):
    def check(self, body, moment, *defects):
        found = read_moment(body)
        self.assertEqual([one.__class__ for one in found], [moment.__class__, tuple])
        self.assertEqual(found, (moment, defects), body)

    def test_right_bodies(self):
        self.check(RIGHT, MOMENT)
        self.check("7 Mar 2022 09:05:03 +0100", MOMENT)
        self.check("07 Mar 2022 09:05:03 +0100", MOMENT)
        self.check("  7   Mar 2022  09:05:03 +0100  ", MOMENT)
        self.check("7 Mar 2022 09:05 -0230", Moment(2022, 3, 7, 9, 5, zone=-150))
        self.check("7 Mar 2022 09:05 UT", Moment(2022, 3, 7, 9, 5))
        self.check("7 Mar 2022 09:05 -0000", Moment(2022, 3, 7, 9, 5))
        self.check("1 Jan 0001 00:00:00 -1459", Moment(1, 1, 1, zone=-899))
        self.check("31 Dec 9999 23:59:59 +1459", Moment(9999, 12, 31, 23, 59, 59, zone=899))

    def test_bodies_without_words(self):
        for body in ("", " ", "     ", "()", " (a) (b(c)) ", "(\\))"):
            self.check(body, None)

    def test_weekdays(self):
        for place, name in enumerate(("Mon", "Tue", "Wed", "Thu", "Fri", "Sat", "Sun")):
            for word in (name, name.lower(), name.upper(), name.swapcase()):
                self.check(f"{word}, {7 + place} Mar 2022 00:00 UT", Moment(2022, 3, 7 + place))
                self.check(f" {word} {7 + place} Mar 2022 00:00 UT", Moment(2022, 3, 7 + place), (4, "comma"))
                self.check(f"{word}, {8 + place} Mar 2022 00:00 UT", Moment(2022, 3, 8 + place), (0, "weekday"))

    def test_wrong_weekday_behind_all(self):
        self.check(" Tue  7 Mar 2022 00:00 UT", Moment(2022, 3, 7), (1, "weekday"), (4, "comma"))
        # The date that results counts.
        self.check("Tue, 1 Mar 2022 00:00 UT", Moment(2022, 3, 1))
        self.check("Tue, 0 Mar 2022 00:00 UT", Moment(2022, 3, 1), (5, "range"))
        self.check("Mon, 1 Jan 0000 00:00 UT", Moment(1, 1, 1), (11, "range"))

    def test_weekday_of_the_zone_of_the_moment(self):
        self.check("Tue, 8 Mar 2022 00:30 +0100", Moment(2022, 3, 8, 0, 30, zone=60))

    def test_other_first_words(self):
        for word in ("Monday", "Mo", "Mon,,", "Mon.", "M", ",", ",Mon", "Mon;", "Mon,x", "Mox", "Mon-"):
            self.check(word + " 7 Mar 2022 00:00 UT", None, (0, "day"))

    def test_weekday_alone(self):
        self.check("Mon", None, (3, "comma"), (3, "day"))
        self.check("Mon,", None, (4, "day"))
        self.check(" Mon,  ", None, (7, "day"))
        self.check("Mon Mon, 7 Mar 2022 00:00 UT", None, (3, "comma"), (4, "day"))
        self.check("Mon , 7 Mar 2022 00:00 UT", None, (3, "comma"), (4, "day"))

    def test_months(self):
        for place, name in enumerate("Jan Feb Mar Apr May Jun Jul Aug Sep Oct Nov Dec".split()):
            for word in (name, name.lower(), name.upper(), name.swapcase()):
                self.check(f"1 {word} 2022 00:00 UT", Moment(2022, place + 1, 1))

    def test_wrong_days(self):
        for word in ("a", "123", "007", "-1", "+1", "1.", "1,", "1a", "_", "1_", "Mar", "7th"):
            self.check(word + " Mar 2022 00:00 UT", None, (0, "day"))
            self.check("Mon, " + word + " x y z w", None, (5, "day"))

    def test_wrong_months(self):
        for word in ("a", "3", "03", "March", "Ma", "Mar,", "M@r", "JanFeb", "MarApr"):
            self.check("7 " + word + " 2022 00:00 UT", None, (2, "month"))
            self.check("40 " + word + " x y z w", None, (3, "month"))

    def test_wrong_years(self):
        for word in ("22", "022", "20222", "-022", "+2022", "2022,", "a", "2O22"):
            self.check("7 Mar " + word + " 00:00 UT", None, (6, "year"))
            self.check("40 Mar " + word + " x y z", None, (7, "year"))

    def test_wrong_times(self):
        for word in ("9:05", "09:5", "0905", "09:05:3", "09:05:", ":05:03", "09::03", "09:05:03:04", "09:05:03.5",
                     "a", "+9:05", "009:05", "09:005", "-1:05", "0:05", "09.05", ":", "::", "09"):
            self.check("7 Mar 2022 " + word + " +0100", Moment(2022, 3, 7, zone=60), (11, "time"))

    def test_wrong_zones(self):
        for word in ("0100", "+100", "+01000", "+01:00", "*0100", "+O100", "UTC", "ut", "Ut", "GMT", "Z", "+", "-",
                     "+01-1", "a", "UT,", "+-100", "++100"):
            self.check("7 Mar 2022 09:05 " + word, Moment(2022, 3, 7, 9, 5), (17, "zone"))

    def test_missing_words(self):
        self.check("7", None, (1, "month"))
        self.check("7 ", None, (2, "month"))
        self.check("7 Mar", None, (5, "year"))
        self.check("7 Mar (x)", None, (9, "year"))
        self.check("7 Mar 2022", Moment(2022, 3, 7), (10, "time"), (10, "zone"))
        self.check("7 Mar 2022   ", Moment(2022, 3, 7), (13, "time"), (13, "zone"))
        self.check("7 Mar 2022 09:05", Moment(2022, 3, 7, 9, 5), (16, "zone"))
        self.check("7 Mar 2022 +0100", Moment(2022, 3, 7), (11, "time"), (16, "zone"))
        self.check("7 Mar 2022 UT UT", Moment(2022, 3, 7), (11, "time"))

    def test_ranges(self):
        for body, moment, position in (
                ("7 Mar 0000 00:00 UT", Moment(1, 3, 7), 6), ("0 Mar 2022 00:00 UT", Moment(2022, 3, 1), 0),
                ("00 Mar 2022 00:00 UT", Moment(2022, 3, 1), 0), ("32 Mar 2022 00:00 UT", Moment(2022, 3, 31), 0),
                ("99 Apr 2022 00:00 UT", Moment(2022, 4, 30), 0), ("29 Feb 2022 00:00 UT", Moment(2022, 2, 28), 0),
                ("30 Feb 2024 00:00 UT", Moment(2024, 2, 29), 0), ("29 Feb 1900 00:00 UT", Moment(1900, 2, 28), 0),
                ("1 Mar 2022 24:00 UT", Moment(2022, 3, 1, 23), 11),
                ("1 Mar 2022 99:05 UT", Moment(2022, 3, 1, 23, 5), 11),
                ("1 Mar 2022 00:60 UT", Moment(2022, 3, 1, 0, 59), 11),
                ("1 Mar 2022 00:00:60 UT", Moment(2022, 3, 1, 0, 0, 59), 11),
                ("1 Mar 2022 24:60:99 UT", Moment(2022, 3, 1, 23, 59, 59), 11),
                ("1 Mar 2022 01:02 +1500", Moment(2022, 3, 1, 1, 2), 17),
                ("1 Mar 2022 01:02 -0060", Moment(2022, 3, 1, 1, 2), 17),
                ("1 Mar 2022 01:02 +9999", Moment(2022, 3, 1, 1, 2), 17)):
            self.check(body, moment, (position, "range"))

    def test_bounds_of_ranges(self):
        self.check("29 Feb 2024 23:59:59 +1459", Moment(2024, 2, 29, 23, 59, 59, zone=899))
        self.check("29 Feb 2000 00:00:00 -1400", Moment(2000, 2, 29, zone=-840))
        self.check("1 Jan 0001 23:59 -0059", Moment(1, 1, 1, 23, 59, zone=-59))
        for year, month in itertools.product((1900, 2000, 2023, 2024), range(1, 13)):
            name = "Jan Feb Mar Apr May Jun Jul Aug Sep Oct Nov Dec".split()[month - 1]
            last = days_in(year, month)
            self.check(f"{last} {name} {year} 00:00 UT", Moment(year, month, last))
            self.check(f"{last + 1} {name} {year} 00:00 UT", Moment(year, month, last), (0, "range"))

    def test_day_in_the_year_that_results(self):
        self.check("29 Feb 0000 00:00 UT", Moment(1, 2, 28), (0, "range"), (7, "range"))

    def test_sixth_word(self):
        self.check(RIGHT + " x", MOMENT, (31, "extra"))
        self.check(RIGHT + "   x y (z) w", MOMENT, (33, "extra"))
        self.check(RIGHT + " (x) )", MOMENT, (35, "extra"))
        self.check("7 Mar x 09:05 UT x", None, (6, "year"))

    def test_comments(self):
        self.check("(a)Mon,(b)7(c)Mar(d)2022(e)09:05:03(f)+0100(g)", MOMENT)
        self.check("( a ( b ) ) 7 Mar 2022 09:05:03 +0100 (\\( ) (\\))", MOMENT)
        self.check("7 Mar 2022 09:05:03 (\")\" +0100", Moment(2022, 3, 7, 9, 5, 3),
                   (23, "zone"), (25, "extra"))

    def check_zone_cut(self, body, *defects):
        self.check(body, Moment(2022, 3, 7, 9, 5), *defects)

    def test_comments_within_words(self):
        self.check("M(x)on, 7 Mar 2022 09:05 UT", None, (0, "day"))
        self.check("7 M(x)ar 2022 09:05 UT", None, (2, "month"))
        self.check("1(x)7 Mar 2022 09:05 UT", None, (4, "month"))
        self.check_zone_cut("7 Mar 2022 09:05 +01(x)00", (17, "zone"), (23, "extra"))
        self.check("Mon(x), 7 Mar 2022 09:05 UT", None, (3, "comma"), (6, "day"))

    def test_comments_without_an_end(self):
        self.check("(", None, (0, "comment"))
        self.check("  (a (b) ", None, (2, "comment"))
        self.check(RIGHT + "(", MOMENT, (30, "comment"))
        self.check(RIGHT + " (a\\)", MOMENT, (31, "comment"))
        self.check("x (", None, (0, "day"), (2, "comment"))
        self.check("7 Mar (2022 09:05 UT", None, (6, "comment"), (20, "year"))
        self.check("7 Mar 2022 (09:05 UT)(", Moment(2022, 3, 7), (21, "comment"), (22, "time"), (22, "zone"))

    def test_other_parentheses_and_quotes(self):
        self.check("7) Mar 2022 09:05 UT", None, (0, "day"))
        self.check(") 7 Mar 2022 09:05 UT", None, (0, "day"))
        self.check_zone_cut("7 Mar 2022 09:05 UT)", (17, "zone"))
        self.check("\"7\" Mar 2022 09:05 UT", None, (0, "day"))
        self.check("\"(\" 7 Mar 2022) 09:05 UT", None, (0, "day"))
        self.check("\\(a) 7 Mar 2022 09:05 UT", None, (0, "day"))

    def test_several_defects_together(self):
        self.check("sat 31 apr 0000 24:00 +9900 x (", Moment(1, 4, 30, 23), (0, "weekday"), (3, "comma"), (4, "range"),
                   (11, "range"), (16, "range"), (22, "range"), (28, "extra"), (30, "comment"))
        self.check("Mon 7 mar 2022 x", Moment(2022, 3, 7), (3, "comma"), (15, "time"), (16, "zone"))


class Writing(unittest.TestCase):
    def test_pieces(self):
        self.assertEqual(moment_pieces(None), ())
        self.assertEqual(moment_pieces(MOMENT), ("Mon,", "7", "Mar", "2022", "09:05:03", "+0100"))
        self.assertEqual(moment_pieces(Moment(1, 1, 1)), ("Mon,", "1", "Jan", "0001", "00:00:00", "+0000"))
        self.assertEqual(moment_pieces(Moment(9999, 12, 31, 23, 59, 59, zone=-899)),
                         ("Fri,", "31", "Dec", "9999", "23:59:59", "-1459"))
        self.assertEqual(moment_pieces(Moment(987, 10, 9, zone=-5))[3:], ("0987", "00:00:00", "-0005"))
        self.assertEqual(moment_pieces(Moment(987, 10, 9, zone=899))[5], "+1459")

    def test_months_and_weekdays(self):
        self.assertEqual([moment_pieces(Moment(2022, month, 1))[2] for month in range(1, 13)],
                         "Jan Feb Mar Apr May Jun Jul Aug Sep Oct Nov Dec".split())
        self.assertEqual([moment_pieces(Moment(2022, 3, day))[0] for day in range(7, 14)],
                         "Mon, Tue, Wed, Thu, Fri, Sat, Sun,".split())


class ThereAndBack(unittest.TestCase):
    def test_fact_nine(self):
        for moment in (None, *sample_moments()):
            for width in (50, 78, 200):
                body = body_of(moment_pieces(moment), width=width)
                self.assertEqual(read_moment(body), (moment, ()))
                for line in lines_of("N" * 20, moment_pieces(moment), width=width):
                    self.assertLessEqual(len(line), width)

    def check_body(self, body):
        moment, defects = read_moment(body)
        self.assertEqual(defects, tuple(sorted(set(defects))))
        for position, _ in defects:
            self.assertTrue(0 <= position <= len(body))
        again = body_of(moment_pieces(moment), width=50)
        self.assertEqual(read_moment(again), (moment, ()))

    def test_fact_ten(self):
        words = [("Mon,", "Sun", ""), ("7", "31", "0", "x"), ("Feb", "(c)", "may"), ("2024", "0000", "9999", "("),
                 ("09:05", "29:60:61", "9"), ("+0100", "-1500", "UT", ""), ("", "x")]
        for row in itertools.product(*words):
            self.check_body(" ".join(row))
        for row in itertools.product("()\\ 7\"", repeat=5):
            self.check_body("".join(row))
        self.check_body(MARKS)
        self.check_body("(" * 2000)
        self.check_body("7 " * 1000)


if __name__ == "__main__":
    unittest.main()
