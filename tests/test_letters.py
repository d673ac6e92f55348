"""headerfold.letters, all but the changes: the interface, and points [5], [6] and [33] over many headers."""

import inspect
import unittest

from headerfold.errors import BadBody, BadHeader, BadLabel, BadNumber, BadWidth, Full, NoHeader
from headerfold.headers import Header, MomentHeader, PeopleHeader, PlainHeader, TypedHeader
from headerfold.letters import Letter
from headerfold.registry import Registry
from headerfold.texts import Text
from headerfold.typed import Typed
from tests.support import Agreeable, check_error, wrong_objects
from tests.test_headers import NO_LABELS, NO_WIDTHS
from tests.test_headers_back import sample_headers

A, B, C = PlainHeader("a", Text("x")), TypedHeader("B", Typed.of("m", k="y")), MomentHeader("c", None)
A2 = PlainHeader("A", Text("z"))
NO_HEADERS = wrong_objects() + ["a: b", "", 0, (), (A,), Text("a"), PlainHeader, Letter()]
NO_RAWS = wrong_objects() + [(), 0, Text("a"), "\t", "a: \xe9", "a: b\r\n", "a\x7f", chr(37)]


def many_headers(many):
    return [PlainHeader(f"X{place}", Text(str(place))) for place in range(many)]


def strings_of(letter):
    return [str(header) for header in letter.all_headers]


class Interface(unittest.TestCase):
    def test_names(self):
        self.assertEqual(Letter.__module__, "headerfold.letters")
        for name in ("__getitem__", "__len__", "__contains__", "__add__", "__eq__", "add", "put_at", "take_out", "move",
                     "set_content", "undo", "redo", "named", "first", "written", "faults", "twin"):
            self.assertIn(name, vars(Letter))
        self.assertIsInstance(vars(Letter)["read"], classmethod)
        for name in ("all_headers", "undoable", "redoable"):
            self.assertIsInstance(vars(Letter)[name], property)
        self.assertTrue(inspect.isgeneratorfunction(Letter.named))
        self.assertTrue(inspect.isgeneratorfunction(Letter.faults))

    def test_parameters(self):
        for name, parameters in {
                "read": "(text, registry=None)", "add": "(self, header)", "put_at": "(self, place, header)",
                "take_out": "(self, place)", "move": "(self, place, goal)", "set_content": "(self, name, content)",
                "undo": "(self)", "redo": "(self)", "named": "(self, name)", "first": "(self, name)",
                "written": "(self, *, width=78)", "faults": "(self)", "twin": "(self)"}.items():
            self.assertEqual(str(inspect.signature(getattr(Letter, name))), parameters)


class Making(unittest.TestCase):
    def test_headers_in_order(self):
        for headers in ((), (A,), (A, B, C), (C, A, A, A2)):
            letter = Letter(*headers)
            self.assertIs(letter.all_headers.__class__, tuple)
            self.assertEqual(len(letter), len(headers))
            for place, header in enumerate(headers):
                self.assertIs(letter[place], header)
                self.assertIs(letter.all_headers[place], header)
            self.assertEqual((letter.undoable, letter.redoable), (0, 0))

    def test_no_headers(self):
        for wrong in NO_HEADERS:
            check_error(self, BadHeader, "given", wrong, Letter, wrong)
            check_error(self, BadHeader, "given", wrong, Letter, A, wrong, None)
            check_error(self, BadHeader, "given", wrong, Letter, *many_headers(100), wrong)

    def test_at_most_a_hundred(self):
        for many in (99, 100):
            self.assertEqual(len(Letter(*many_headers(many))), many)
        for many in (101, 102, 150):
            check_error(self, Full, "limit", 100, Letter, *many_headers(many))


class Reading(unittest.TestCase):
    def test_example(self):
        letter = Letter.read("To: a@b\nSubject: hi\n there\n\nBody")
        letter.add(PlainHeader("X", Text("y")))
        self.assertEqual((len(letter), "subject" in letter, letter.undoable), (3, True, 1))

    def test_lines(self):
        for text, strings in (
                ("", []), ("\n", []), ("a: b", ["a: b"]), ("a: b\n", ["a: b"]), ("a: b\n\n", ["a: b"]),
                ("a: b\n c\nX: y\n", ["a: b c", "X: y"]), ("a: b\nstray\n c\nX: y", ["a: b", "X: y"]),
                ("\na: b", []), (" a: b\nX: y\n\nZ: w", ["X: y"]), ("a:\n b\nX:", ["a: b", "X:"]),
                ("a: b\n \nX: y", ["a: b", "X: y"]), ("a\nb\n:\n c", [])):
            letter = Letter.read(text)
            self.assertEqual(strings_of(letter), strings, text)
            self.assertEqual((letter.undoable, letter.redoable), (0, 0))

    def test_kinds(self):
        letter = Letter.read("To: a@b\nDate:\nX: y\nContent-Form: z")
        self.assertEqual([header.__class__ for header in letter.all_headers],
                         [PeopleHeader, MomentHeader, PlainHeader, TypedHeader])
        registry = Registry(("X", "typed"), ("to", "plain"))
        for letter in (Letter.read("To: a@b\nX: y", registry), Letter.read(registry=registry, text="To: a@b\nX: y")):
            self.assertEqual([header.__class__ for header in letter.all_headers], [PlainHeader, TypedHeader])

    def test_no_raw_strings(self):
        for wrong in NO_RAWS:
            check_error(self, BadBody, "given", wrong, Letter.read, wrong)
            check_error(self, BadBody, "given", wrong, Letter.read, wrong, Registry())

    def test_at_most_a_hundred(self):
        for many in (99, 100, 101, 300):
            text = "".join(f"X{place}: y\n" for place in range(many))
            if many > 100:
                check_error(self, Full, "limit", 100, Letter.read, text)
            else:
                self.assertEqual(len(Letter.read(text)), many)
        # What stands behind the empty line does not count.
        self.assertEqual(len(Letter.read("a: b\n" * 100 + "\n" + "a: b\n" * 50)), 100)
        self.assertEqual(len(Letter.read("a: b\n" * 100 + "stray\n" * 50)), 100)


class Asking(unittest.TestCase):
    def setUp(self):
        self.letter = Letter(A, B, A2, C)

    def test_numbers(self):
        for wrong in wrong_objects() + [-1, 4, 5, 10 ** 399, "a", "0", (), (0,), Text("a")]:
            check_error(self, BadNumber, "given", wrong, self.letter.__getitem__, wrong)
        with self.assertRaises(BadNumber):
            Letter()[0]

    def test_names(self):
        for name in ("a", "A", "b", "B", "c", "C"):
            self.assertIs(name in self.letter, True)
        for thing in NO_LABELS + ["ab", "X", "a:", A]:
            self.assertIs(thing in self.letter, False)
        self.assertIs("a" in Letter(), False)
        self.assertIs("a" in Letter(B), False)

    def test_not_iterable(self):
        for call in (list, tuple, iter, sorted):
            with self.assertRaises(TypeError):
                call(self.letter)
        with self.assertRaises(TypeError):
            list(Letter())

    def test_named(self):
        for name in ("a", "A"):
            self.assertEqual(list(self.letter.named(name)), [A, A2])
        self.assertEqual(list(self.letter.named(name="b")), [B])
        self.assertEqual(list(self.letter.named("X")), [])
        for wrong in NO_LABELS:
            headers = self.letter.named(wrong)
            self.assertTrue(inspect.isgenerator(headers))
            check_error(self, BadLabel, "given", wrong, next, headers)

    def test_first(self):
        self.assertIs(self.letter.first("A"), A)
        self.assertIs(self.letter.first(name="c"), C)
        for wrong in NO_LABELS + ["X", "ab", "a:", A]:
            check_error(self, NoHeader, "given", wrong, self.letter.first, wrong)
        check_error(self, NoHeader, "given", "a", Letter().first, "a")

    def test_faults(self):
        self.assertEqual(list(self.letter.faults()), [])
        letter = Letter.read("X: a\nTo: b, \nDate: Mon\nX: y\nContent-Form: a b;\n  c\n")
        self.assertEqual(list(letter.faults()), [
            (1, 0, "address"), (1, 3, "empty"), (2, 3, "comma"), (2, 3, "day"), (4, 1, "main"), (4, 6, "part")])
        letter.take_out(0)
        self.assertEqual([number for number, _, _ in letter.faults()], [0, 0, 1, 1, 3, 3])
        letter.set_content("to", ())
        self.assertEqual([number for number, _, _ in letter.faults()], [1, 1, 3, 3])
        self.assertEqual([one.__class__ for one in letter.faults()], [tuple] * 4)


class Equality(unittest.TestCase):
    def test_equal_headers_in_order(self):
        for one, other, answer in (
                (Letter(), Letter(), True), (Letter(A), Letter(A), True), (Letter(A), Letter(A2), False),
                (Letter(A, B), Letter(B, A), False), (Letter(A, B), Letter(A), False), (Letter(), Letter(A), False),
                (Letter(PlainHeader("X", Text("a"))), Letter(PlainHeader("x", Text("a"))), True)):
            self.assertIs(one == other, answer)
            self.assertIs(other == one, answer)
            self.assertIs(one != other, not answer)

    def test_not_the_changes_and_defects(self):
        one = Letter(A)
        one.add(B)
        one.take_out(1)
        self.assertIs(one == Letter(A), True)
        self.assertIs(Letter.read("X: a\n b c") == Letter.read("X: a b\n\n"), False)
        self.assertIs(Letter.read("Content-Form: a b") == Letter.read("content-form: a c"), True)

    def test_other_objects(self):
        for letter in (Letter(), Letter(A)):
            others = [one for one in wrong_objects() if one.__class__ is not Agreeable]
            for other in others + [(A,), A, "", letter.all_headers]:
                self.assertIs(Letter.__eq__(letter, other), False)


class Joining(unittest.TestCase):
    def test_headers_of_both(self):
        one, other = Letter(A, B), Letter(C)
        one.add(A2)
        joined = one + other
        self.assertIs(joined.__class__, Letter)
        self.assertEqual(joined.all_headers, (A, B, A2, C))
        self.assertEqual((joined.undoable, joined.redoable), (0, 0))
        self.assertEqual((one.all_headers, one.undoable, other.all_headers), ((A, B, A2), 1, (C,)))
        self.assertEqual(one + Letter(), one)
        self.assertEqual((Letter() + Letter()).all_headers, ())
        joined.add(A)
        self.assertEqual((len(one), len(other)), (3, 1))
        self.assertEqual((other + other).all_headers, (C, C))

    def test_at_most_a_hundred(self):
        fifty = Letter(*many_headers(50))
        self.assertEqual(len(fifty + fifty), 100)
        self.assertEqual(len(fifty + Letter(*many_headers(49))), 99)
        for one, other in ((fifty, Letter(*many_headers(51))), (Letter(*many_headers(100)), Letter(A))):
            check_error(self, Full, "limit", 100, one.__add__, other)
            check_error(self, Full, "limit", 100, other.__add__, one)
        self.assertEqual(len(fifty), 50)

    def test_other_objects(self):
        for other in (A, (A,), None, "a: b"):
            with self.assertRaises(TypeError):
                Letter() + other


class Writing(unittest.TestCase):
    def test_header_texts(self):
        letter = Letter(A, PlainHeader("Long", Text("word " * 30 + "end")), B)
        for width in (50, 78, 200):
            self.assertEqual(letter.written(width=width),
                             "".join(header.folded(width=width) + "\n" for header in letter.all_headers))
        self.assertEqual(letter.written(), letter.written(width=78))
        self.assertEqual(Letter(A, B, C).written(), "a: x\nB: m; k=y\nc:\n")
        self.assertEqual(Letter().written(), "")

    def test_wrong_widths(self):
        for letter in (Letter(), Letter(A)):
            for width in NO_WIDTHS:
                check_error(self, BadWidth, "given", width, letter.written, width=width)
            with self.assertRaises(TypeError):
                letter.written(78)

    def test_there_and_back(self):
        headers = list(sample_headers())
        registry = Registry(*[(f"X-{kind}", kind) for kind in ("plain", "people", "typed", "moment")])
        for start in range(0, len(headers), 90):
            letter = Letter(*[registry.make(f"X-{header.KIND}", header.content) for header in headers[start:start + 90]])
            for width in (50, 78, 131, 200):
                text = letter.written(width=width)
                found = Letter.read(text, registry)
                self.assertEqual(found, letter)
                self.assertEqual(list(found.faults()), [])
                self.assertEqual(found.written(width=61), letter.written(width=61))
                self.assertEqual(Letter.read(text + "\nX-plain: no\n", registry), letter)


class Kinds(unittest.TestCase):
    def test_all_are_headers(self):
        for header in Letter.read("To: a\nX: b\nDate:\nContent-Form:").all_headers:
            self.assertIsInstance(header, Header)


if __name__ == "__main__":
    unittest.main()
