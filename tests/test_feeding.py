"""headerfold.feeding: the interface, and point [5] over many lines."""

import inspect
import itertools
import unittest

from headerfold import feeding
from headerfold.errors import BadLine, Ended
from headerfold.feeding import Feeder, feed_all
from headerfold.headers import MomentHeader, PeopleHeader, PlainHeader, TypedHeader
from headerfold.registry import Registry
from headerfold.texts import Text
from tests.support import check_error, wrong_objects

NO_LINES = wrong_objects() + ["\n", "a: b\n", "a\n b", "\t", "\xe9", "a: \x7f", chr(37), (), ("a: b",), 0, Text("a")]
LINES = ("a: b", " c", "", "stray", "To: d@e", "  ", ":", "1a: b", "x y: z", "D:")


def told(header):
    return None if header is None else str(header)


def blocks_of(lines):
    """What the lines give, found anew: the texts of the headers, and the stray lines."""
    texts, strays, is_open = [], [], False
    for line in lines:
        if line == "":
            break
        name, colon, _ = line.partition(":")
        if line[0] == " " and is_open:
            texts[-1] = texts[-1] + "\n" + line
        elif colon and name.replace("-", "").isalnum() and name[0].isalpha() and len(name) <= 20:
            texts.append(line)
            is_open = True
        else:
            strays.append(line)
            is_open = False
    return texts, strays


class Interface(unittest.TestCase):
    def test_names_and_parameters(self):
        self.assertEqual((Feeder.__module__, feed_all.__module__), ("headerfold.feeding", "headerfold.feeding"))
        self.assertEqual(str(inspect.signature(Feeder)), "(registry=None)")
        self.assertEqual(str(inspect.signature(feed_all)), "(lines, registry=None)")
        self.assertTrue(inspect.isgeneratorfunction(feeding.feed_all))
        for name in ("fed", "strays", "has_ended"):
            self.assertIsInstance(vars(Feeder)[name], property)
        for name in ("feed", "finish"):
            self.assertIn(name, vars(Feeder))

    def test_at_first(self):
        feeder = Feeder()
        self.assertEqual((feeder.fed, feeder.strays, feeder.has_ended), (0, (), False))
        self.assertEqual((feeder.fed.__class__, feeder.strays.__class__), (int, tuple))


class Lines(unittest.TestCase):
    def check(self, steps, fed, strays, has_ended=False):
        """Each step is a line and the string of the header that it closes, or None."""
        feeder = Feeder()
        for line, closed in steps:
            self.assertEqual(told(feeder.feed(line)), closed, line)
        self.assertEqual((feeder.fed, feeder.strays, feeder.has_ended), (fed, strays, has_ended))
        return feeder

    def test_lines_that_open_and_continue(self):
        feeder = self.check([("a: b", None), (" c", None), (" d", None), ("X: y", "a: b c d"), (" ", None)], 1, ())
        self.assertEqual(told(feeder.finish()), "X: y")
        self.assertEqual((feeder.fed, feeder.has_ended), (2, True))

    def test_empty_lines_end_the_block(self):
        self.check([("a: b", None), ("", "a: b")], 1, (), True)
        self.check([("", None)], 0, (), True)
        self.check([("stray", None), ("", None)], 0, ("stray",), True)

    def test_stray_lines(self):
        self.check([("stray", None), ("a: b", None), ("other", "a: b"), ("third", None), ("X: y", None)], 1,
                   ("stray", "other", "third"))
        for line in ("a", ":", "1: b", "-a: b", "a : b", "a b: c", "a" * 21 + ": b", "a_b: c", "(a: b)"):
            self.check([("X: y", None), (line, "X: y")], 1, (line,))

    def test_lines_that_begin_with_a_space_without_an_open_header(self):
        self.check([(" a", None), ("  X: y", None), (" ", None)], 0, (" a", "  X: y", " "))
        self.check([("a: b", None), ("stray", "a: b"), (" c", None), (" d: e", None)], 1, ("stray", " c", " d: e"))

    def test_lines_of_spaces_continue(self):
        feeder = self.check([("a: b", None), ("   ", None), (" c", None)], 0, ())
        self.assertEqual(str(feeder.finish().content), "b    c")

    def test_what_looks_like_a_header_behind_a_space(self):
        feeder = self.check([("a: b", None), (" X: y", None)], 0, ())
        self.assertEqual(str(feeder.finish().content), "b X: y")

    def test_first_line_without_a_rest(self):
        feeder = self.check([("a:", None), (" b", None)], 0, ())
        header = feeder.finish()
        self.assertEqual((str(header.content), header.defects), ("b", ()))

    def test_classes_and_defects(self):
        feeder = Feeder()
        closed = [feeder.feed(line) for line in ("To: a, ", "Date: Mon", "content-form: a b", "X: =?x?=", "")][1:]
        self.assertEqual([header.__class__ for header in closed], [PeopleHeader, MomentHeader, TypedHeader, PlainHeader])
        self.assertEqual([header.defects for header in closed], [
            ((0, "address"), (3, "empty")), ((3, "comma"), (3, "day")), ((1, "main"),), ((0, "parts"),)])

    def test_by_name(self):
        feeder = Feeder(registry=Registry(("X", "typed")))
        self.assertIsNone(feeder.feed(line="X: a"))
        self.assertIs(feeder.finish().__class__, TypedHeader)

    def test_another_registry(self):
        registry = Registry(("X", "people"), ("to", "plain"))
        feeder = Feeder(registry)
        closed = [feeder.feed(line) for line in ("X: a@b", "To: a@b", "Date:", "")][1:]
        self.assertEqual([header.KIND for header in closed], ["people", "plain", "moment"])
        self.assertEqual(len(registry), 9)

    def test_against_what_is_found_anew(self):
        for lines in itertools.product(LINES, repeat=4):
            if "" in lines[:-1]:
                continue
            feeder = Feeder()
            closed = [feeder.feed(line) for line in lines]
            if not feeder.has_ended:
                closed.append(feeder.finish())
            texts, strays = blocks_of(lines)
            found = [header for header in closed if header is not None]
            self.assertEqual(found, [Registry()(text) for text in texts])
            self.assertEqual((feeder.fed, feeder.strays, feeder.has_ended), (len(texts), tuple(strays), True))


class Ends(unittest.TestCase):
    def test_finish(self):
        feeder = Feeder()
        self.assertIsNone(feeder.finish())
        self.assertEqual((feeder.fed, feeder.has_ended), (0, True))
        feeder = Feeder()
        feeder.feed("a: b")
        feeder.feed("stray")
        self.assertIsNone(feeder.finish())
        self.assertEqual((feeder.fed, feeder.strays), (1, ("stray",)))

    def test_behind_the_end(self):
        for lines, many in ((("",), 0), (("a: b", ""), 1), (("a: b", "c", "X: y", " z", ""), 2), (("a: b",), 1), ((), 0)):
            feeder = Feeder()
            for line in lines:
                feeder.feed(line)
            if not feeder.has_ended:
                feeder.finish()
            strays = feeder.strays
            for line in LINES:
                check_error(self, Ended, "many", many, feeder.feed, line)
            check_error(self, Ended, "many", many, feeder.finish)
            check_error(self, Ended, "many", many, feeder.finish)
            self.assertEqual((feeder.fed, feeder.strays, feeder.has_ended), (many, strays, True))

    def test_wrong_lines(self):
        feeder = Feeder()
        feeder.feed("a: b")
        for line in NO_LINES:
            check_error(self, BadLine, "given", line, feeder.feed, line)
        self.assertEqual((feeder.fed, feeder.strays, feeder.has_ended), (0, (), False))
        feeder.feed(" c")
        self.assertEqual(told(feeder.finish()), "a: b c")
        # They are wrong behind the end, too.
        for line in NO_LINES:
            check_error(self, BadLine, "given", line, feeder.feed, line)

    def test_two_feeders_at_a_time(self):
        one, other = Feeder(), Feeder()
        self.assertIsNone(one.feed("a: b"))
        self.assertIsNone(other.feed(" stray"))
        self.assertIsNone(other.feed("X: y"))
        self.assertIsNone(one.feed(" c"))
        self.assertEqual(told(other.feed("")), "X: y")
        self.assertEqual((one.has_ended, one.strays, one.fed), (False, (), 0))
        self.assertEqual(told(one.finish()), "a: b c")
        self.assertEqual((other.strays, other.fed), ((" stray",), 1))

    def test_strays_that_were_asked_for_stay(self):
        feeder = Feeder()
        feeder.feed("one")
        before = feeder.strays
        feeder.feed("two")
        self.assertEqual((before, feeder.strays), (("one",), ("one", "two")))


class All(unittest.TestCase):
    def test_headers_of_lines(self):
        for lines, texts in (((), []), (("",), []), (("a: b",), ["a: b"]), (("a: b", " c", "X:", "y"), ["a: b c", "X:"]),
                             (("a: b", "", "X: y"), ["a: b"]), (("", "a: b"), []), ((" a", "X: y", ""), ["X: y"]),
                             (("a: b", "stray", " c", "D: e"), ["a: b", "D: e"])):
            self.assertEqual([str(header) for header in feed_all(lines)], texts)
            self.assertEqual([str(header) for header in feed_all(registry=None, lines=lines)], texts)

    def test_against_feeders(self):
        for lines in itertools.product(LINES, repeat=3):
            texts, _ = blocks_of(lines)
            self.assertEqual(list(feed_all(lines)), [Registry()(text) for text in texts])

    def test_registry(self):
        registry = Registry(("X", "moment"))
        self.assertEqual([header.KIND for header in feed_all(("X: a", "To: b"), registry)], ["moment", "people"])
        self.assertEqual([header.KIND for header in feed_all(("X: a", "To: b"))], ["plain", "people"])

    def test_no_tuple(self):
        for wrong in wrong_objects() + ["", "a: b", 0, ["a: b"], Text("a")]:
            check_error(self, BadLine, "given", None, list, feed_all(wrong))

    def test_wrong_lines_before_any_header(self):
        for wrong in NO_LINES:
            for lines in ((wrong,), ("a: b", wrong), ("a: b", "X: y", "", "z", wrong), (wrong, "", "\n"), ("", wrong, "\t")):
                check_error(self, BadLine, "given", wrong, next, feed_all(lines))

    def test_nothing_is_raised_before_the_first_item(self):
        for wrong in (None, [], ("\n",), ("a: b", None)):
            headers = feed_all(wrong)
            self.assertTrue(inspect.isgenerator(headers))
            with self.assertRaises(BadLine):
                next(headers)

    def test_headers_one_by_one(self):
        headers = feed_all(("a: b", "X: y", "D: e"))
        self.assertEqual([str(next(headers)), str(next(headers)), str(next(headers))], ["a: b", "X: y", "D: e"])
        with self.assertRaises(StopIteration):
            next(headers)


if __name__ == "__main__":
    unittest.main()
