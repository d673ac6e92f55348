"""headerfold.texts: texts [3], and the class Text of the interface."""

import ast
import importlib
import inspect
import pkgutil
import unittest

import headerfold
from headerfold import texts
from headerfold.errors import BadCode, BadNumber, BadText, NoCode
from headerfold.marks import MARKS, is_code
from headerfold.texts import Text
from tests.support import check_error, wrong_objects
from tests.test_language import nodes

MIXED = (99, 97, 102, 233, 32, 8364)


def text_of(*codes):
    return Text.of(codes)


class Interface(unittest.TestCase):
    def test_methods_are_those_of_the_class_itself(self):
        self.assertEqual(Text.__module__, "headerfold.texts")
        own = vars(Text)
        self.assertIsInstance(own["of"], classmethod)
        self.assertIsInstance(own["joined"], staticmethod)
        for name in ("codes", "is_plain"):
            self.assertIsInstance(own[name], property)
        for name in ("__init__", "cut", "part", "__add__", "__getitem__", "__len__", "__contains__", "__bool__",
                     "__eq__", "__str__"):
            self.assertTrue(inspect.isfunction(own[name]), name)
        self.assertIs(texts.Text, Text)

    def test_parameters(self):
        self.assertEqual(str(inspect.signature(Text)), "(marks='')")
        self.assertEqual(str(inspect.signature(Text.of)), "(codes)")
        self.assertEqual(str(inspect.signature(Text.joined)), "(texts)")
        self.assertEqual(str(inspect.signature(Text().cut)), "()")
        self.assertEqual(str(inspect.signature(Text().part)), "(start, end)")

    def test_by_name(self):
        self.assertEqual(Text(marks="ab").codes, (97, 98))
        self.assertEqual(Text.of(codes=(97, 98)).codes, (97, 98))
        self.assertEqual(Text.joined(texts=(Text("a"), Text("b"))).codes, (97, 32, 98))
        self.assertEqual(Text("abc").part(start=1, end=2).codes, (98,))
        self.assertEqual(Text("abc").part(end=3, start=1).codes, (98, 99))

    def test_example(self):
        text = Text("caf") + Text.of((233, 32, 8364))
        self.assertEqual(
            (str(text), len(text), 233 in text, text[3], text.is_plain, [str(one) for one in text.cut()]),
            ("caf{233} {8364}", 6, True, 233, False, ["caf{233}", "{8364}"]))


class FromMarks(unittest.TestCase):
    def test_codes_are_those_of_the_marks(self):
        self.assertEqual(Text("aZ 0~").codes, (97, 90, 32, 48, 126))
        self.assertEqual(Text(MARKS).codes, tuple(code for code in range(32, 127) if code != 37))
        self.assertIs(Text("a").codes.__class__, tuple)

    def test_empty(self):
        self.assertEqual(Text().codes, ())
        self.assertEqual(Text("").codes, ())

    def test_spaces_are_kept(self):
        self.assertEqual(Text("  a  ").codes, (32, 32, 97, 32, 32))

    def test_long(self):
        self.assertEqual(Text("ab" * 1000).codes, (97, 98) * 1000)

    def test_wrong(self):
        strings = ["\n", "a\n", "\na", "a\n b", "\t", chr(37), "a" + chr(37), "\xe9", "\u20ac", "\x7f", "\x1f", "\xa0"]
        for thing in wrong_objects() + strings + [(), (97,), 97, Text(), Text("a")]:
            check_error(self, BadText, "given", thing, Text, thing)
            check_error(self, BadText, "given", thing, Text, marks=thing)


class Willing:
    """An own object that has every attribute."""

    def __init__(self, worth):
        self.worth = worth

    def __getattr__(self, name):
        return self.worth


class NoBodies(unittest.TestCase):
    """The constructor takes strings of marks, and no object of another class, whatever that class is."""

    ROWS = ((), (65,), (97, 98), (5, "x"), [65], "ab", None)

    def refused(self, thing):
        check_error(self, BadText, "given", thing, Text, thing)
        check_error(self, BadText, "given", thing, Text, marks=thing)

    def classes_of_the_package(self):
        files = [name for _, name, _ in pkgutil.iter_modules(headerfold.__path__)]
        self.assertIn("texts", files)
        for file in files:
            module = importlib.import_module("headerfold." + file)
            yield from [found for found in vars(module).values() if inspect.isclass(found)]

    def attributes_of_the_package(self):
        return sorted({node.attr for _, node in nodes() if isinstance(node, ast.Attribute)})

    def test_objects_of_every_class_of_the_package(self):
        names = self.attributes_of_the_package()
        self.assertIn("_codes", names)
        for found in self.classes_of_the_package():
            self.refused(found)
            for row in self.ROWS:
                # No constructor runs: this object has every attribute that the package knows, with this value.
                thing = found.__new__(found)
                vars(thing).update({name: row for name in names})
                self.refused(thing)

    def test_objects_of_other_classes(self):
        for row in self.ROWS:
            self.refused(Willing(row))
            for name in ("Known", "Text", "str", "Codes"):
                self.refused(type(name, (), {"row": row, "codes": row, "_codes": row, "marks": row})())
        for thing in (b"ab", bytearray(b"ab"), ["a", "b"], ("a", "b"), {"a": "b"}, iter("ab"), Willing, "ab".join):
            self.refused(thing)

    def test_texts_and_objects_below_them(self):
        for text in (Text(), Text("ab"), text_of(233), type("Below", (Text,), {})("ab"),
                     Text("a") + Text("b"), Text("a b").part(0, 1), Text("a b").cut()[0], Text.joined((Text("a"),))):
            self.refused(text)


class OfCodes(unittest.TestCase):
    def test_codes(self):
        for codes in ((), (32,), (32, 36, 38, 126, 160, 65535), MIXED, (63,) * 2000):
            text = Text.of(codes)
            self.assertIs(text.__class__, Text)
            self.assertEqual(text.codes, codes)
            self.assertIs(text.codes.__class__, tuple)

    def test_every_code(self):
        codes = tuple(code for code in range(65536) if is_code(code))
        self.assertEqual(Text.of(codes).codes, codes)

    def test_no_tuple(self):
        for thing in wrong_objects() + ["", "a", 97, Text("a")]:
            check_error(self, BadCode, "place", None, Text.of, thing)
            check_error(self, BadCode, "place", None, Text.of, codes=thing)

    def test_first_item_that_is_no_code(self):
        for wrong in (31, 37, 127, 159, 65536, 0, -1, -32, 10 ** 399):
            self.one_wrong_item(wrong)
        for wrong in wrong_objects() + ["", "a", (), (97,), Text("a")]:
            self.one_wrong_item(wrong)

    def one_wrong_item(self, wrong):
        check_error(self, BadCode, "place", 0, Text.of, (wrong,))
        check_error(self, BadCode, "place", 0, Text.of, (wrong, wrong))
        check_error(self, BadCode, "place", 0, Text.of, (wrong, 97))
        check_error(self, BadCode, "place", 2, Text.of, (97, 98, wrong))
        check_error(self, BadCode, "place", 1, Text.of, codes=(97, wrong, 97, wrong))

    def test_late_place(self):
        check_error(self, BadCode, "place", 1999, Text.of, (97,) * 1999 + (37,))


class Joined(unittest.TestCase):
    def test_a_code_32_between_neighbors(self):
        for parts, codes in (
                ((), ()), (("",), ()), (("a",), (97,)), (("a", "b"), (97, 32, 98)), (("", ""), (32,)),
                (("", "", ""), (32, 32)), (("a", "", "b"), (97, 32, 32, 98)), (("", "a"), (32, 97)),
                (("a", ""), (97, 32)), ((" ", " "), (32, 32, 32)), (("ab", "c", "d"), (97, 98, 32, 99, 32, 100))):
            text = Text.joined(tuple(Text(part) for part in parts))
            self.assertIs(text.__class__, Text)
            self.assertEqual(text.codes, codes, parts)
            self.assertIs(text.codes.__class__, tuple)

    def test_codes_that_are_not_plain(self):
        self.assertEqual(Text.joined((text_of(233), text_of(8364))).codes, (233, 32, 8364))

    def test_cut_and_joined(self):
        for codes in ((), (32,), (32, 32), MIXED, (97, 32), (32, 97), (160, 32, 32, 65535, 32)):
            self.assertEqual(Text.joined(Text.of(codes).cut()), Text.of(codes))

    def test_parts_stay_as_they_are(self):
        parts = (Text("a"), Text("b"))
        Text.joined(parts)
        self.assertEqual([one.codes for one in parts], [(97,), (98,)])

    def test_wrong(self):
        text = Text("a")
        for thing in wrong_objects() + ["", "a", 1, text, [text], [text, text], {text.codes: text}]:
            check_error(self, BadText, "given", thing, Text.joined, thing)
            check_error(self, BadText, "given", thing, Text.joined, texts=thing)
        for wrong in wrong_objects() + ["", "a", 97, (), (text,), (97,)]:
            for thing in ((wrong,), (text, wrong), (wrong, text), (text, wrong, text)):
                check_error(self, BadText, "given", thing, Text.joined, thing)


class Properties(unittest.TestCase):
    def test_is_plain(self):
        for text, expected in (
                (Text(), True), (Text("a b"), True), (Text(MARKS), True), (text_of(126), True), (text_of(32), True),
                (text_of(160), False), (text_of(65535), False), (Text.of(MIXED), False), (text_of(97, 233), False),
                (text_of(233, 97), False), (text_of(97, 233, 97), False)):
            self.assertIs(text.is_plain, expected, str(text))

    def test_a_text_never_changes(self):
        text = Text("ab")
        for name, value in (("codes", (97,)), ("is_plain", False)):
            with self.assertRaises(AttributeError):
                setattr(text, name, value)
        with self.assertRaises(TypeError):
            text[0] = 98
        with self.assertRaises(TypeError):
            del text[0]
        self.assertEqual(text.codes, (97, 98))

    def test_no_call_changes_a_text(self):
        text = Text.of(MIXED)
        other = Text("ab")
        text.cut()
        text.part(1, 2)
        Text.joined((text, other))
        str(text)
        longer = text
        longer += other
        self.assertEqual(longer.codes, MIXED + (97, 98))
        self.assertEqual(text.codes, MIXED)
        self.assertEqual(other.codes, (97, 98))
        check_error(self, BadNumber, "given", 9, text.part, 0, 9)
        check_error(self, NoCode, "given", 9, text.__getitem__, 9)
        self.assertEqual(text.codes, MIXED)


class Signs(unittest.TestCase):
    def test_put_together(self):
        for one, other in (((), ()), ((97,), ()), ((), (97,)), ((97,), (98,)), (MIXED, MIXED), ((32,), (32, 233))):
            text = Text.of(one) + Text.of(other)
            self.assertIs(text.__class__, Text)
            self.assertEqual(text.codes, one + other)

    def test_nothing_else_is_put_together(self):
        for thing in [None, "a", (97,), [97], 97, b"a", Text]:
            with self.assertRaises(TypeError):
                Text("a") + thing
            with self.assertRaises(TypeError):
                thing + Text("a")

    def test_code_at_a_place(self):
        text = Text.of(MIXED)
        self.assertEqual([text[k] for k in range(6)], list(MIXED))
        self.assertEqual(text_of(65535)[0], 65535)

    def test_no_code_there(self):
        text = Text.of(MIXED)
        for thing in (6, 7, -1, -6, -7, 10 ** 399, -10 ** 399):
            check_error(self, NoCode, "given", thing, lambda: text[thing])
        for thing in (0, 1, -1):
            check_error(self, NoCode, "given", thing, lambda: Text()[thing])
        for thing in wrong_objects() + ["", "0", (), (0,), slice(None), Text("a")]:
            check_error(self, NoCode, "given", thing, lambda: text[thing])

    def test_length(self):
        for many in (0, 1, 2, 2000):
            self.assertEqual(len(Text("x" * many)), many)
        self.assertEqual(len(Text.of(MIXED)), 6)

    def test_contains(self):
        text = Text.of(MIXED)
        for code in MIXED:
            self.assertIs(code in text, True)
        for code in (98, 33, 31, 37, 127, 0, -1, 160, 65535, 65536, 10 ** 399):
            self.assertIs(code in text, False)
        self.assertIs(32 in Text(), False)

    def test_contains_nothing_but_codes(self):
        text = text_of(32, 40, 65, 97)
        for thing in wrong_objects() + [97.0, 32.0, 65 + 0j, "", "a", "A", " ", (), (97,), Text("a"), Text()]:
            self.assertIs(thing in text, False)

    def test_truth(self):
        self.assertIs(bool(Text()), False)
        self.assertIs(bool(Text(" ")), True)
        self.assertIs(bool(Text.of(MIXED)), True)
        self.assertIs(Text().__bool__(), False)
        self.assertIs(Text("a").__bool__(), True)

    def test_equal(self):
        self.assertIs(Text("caf") == text_of(99, 97, 102), True)
        self.assertIs(Text() == Text.of(()), True)
        self.assertIs(Text.of(MIXED) == Text.of(MIXED), True)
        self.assertIs(Text("caf") != text_of(99, 97, 102), False)

    def test_different(self):
        for one, other in ((Text("a"), Text("b")), (Text("a"), Text()), (Text("ab"), Text("ba")),
                           (Text("a"), Text("aa")), (text_of(233), Text("{233}")), (Text(" "), text_of(160))):
            self.assertIs(one == other, False)
            self.assertIs(other == one, False)
            self.assertIs(one != other, True)

    def test_different_from_every_other_object(self):
        for thing in wrong_objects() + ["", "a", 97, (), (97,)]:
            self.assertIs(Text("a") == thing, False)
            self.assertIs(Text() == thing, False)
            self.assertIs(Text("a") != thing, True)

    def test_not_iterable(self):
        for text in (Text(), Text("abc")):
            for reading in (iter, list, tuple, sorted, enumerate, sum):
                self.assertRaises(TypeError, reading, text)
            with self.assertRaises(TypeError):
                for _ in text:
                    pass
            with self.assertRaises(TypeError):
                _ = [*text]


class Strings(unittest.TestCase):
    def test_plain_codes_are_marks(self):
        for marks in ("", " ", "a b", "{233}", "{}", MARKS):
            self.assertEqual(str(Text(marks)), marks)

    def test_other_codes_are_digits_in_braces(self):
        for codes, shown in (((160,), "{160}"), ((233,), "{233}"), ((65535,), "{65535}"), ((8364, 233), "{8364}{233}"),
                             ((97, 233, 98), "a{233}b"), ((36, 38, 126), "$&~"), (MIXED, "caf{233} {8364}")):
            self.assertEqual(str(Text.of(codes)), shown)

    def test_different_texts_can_have_equal_strings(self):
        one, other = text_of(233), Text("{233}")
        self.assertEqual(str(one), str(other))
        self.assertFalse(one == other)


class Cut(unittest.TestCase):
    def test_parts(self):
        for marks, parts in (
                ("", [""]), (" ", ["", ""]), ("  ", ["", "", ""]), ("a", ["a"]), ("a b", ["a", "b"]),
                (" a", ["", "a"]), ("a ", ["a", ""]), ("a  b", ["a", "", "b"]), (" ab c ", ["", "ab", "c", ""])):
            answer = Text(marks).cut()
            self.assertIs(answer.__class__, tuple)
            self.assertEqual([one.codes for one in answer], [Text(part).codes for part in parts], marks)
            for one in answer:
                self.assertIs(one.__class__, Text)

    def test_only_at_code_32(self):
        self.assertEqual([one.codes for one in text_of(160, 32, 33, 31 + 2, 12288).cut()],
                         [(160,), (33, 33, 12288)])

    def test_one_part_more_than_codes_32(self):
        for many in range(20):
            self.assertEqual(len(Text("a" + " " * many).cut()), many + 1)


class Part(unittest.TestCase):
    def test_every_part(self):
        text = Text.of(MIXED)
        for start in range(7):
            for end in range(start, 7):
                part = text.part(start, end)
                self.assertIs(part.__class__, Text)
                self.assertEqual(part.codes, MIXED[start:end])

    def test_empty_text(self):
        self.assertEqual(Text().part(0, 0).codes, ())

    def test_wrong_start(self):
        text = Text.of(MIXED)
        for start in [7, 8, -1, -6, 10 ** 399] + wrong_objects() + ["", "0", (), (0,), Text("a")]:
            check_error(self, BadNumber, "given", start, text.part, start, 6)
            check_error(self, BadNumber, "given", start, text.part, start=start, end=6)
        check_error(self, BadNumber, "given", 1, Text().part, 1, 1)

    def test_wrong_end(self):
        text = Text.of(MIXED)
        for end in [7, 8, 1, 0, -1, 10 ** 399] + wrong_objects() + ["", "3", (), (3,), Text("a")]:
            check_error(self, BadNumber, "given", end, text.part, 2, end)
            check_error(self, BadNumber, "given", end, text.part, start=2, end=end)

    def test_start_is_looked_at_first(self):
        text = Text.of(MIXED)
        start, end = [], {}
        check_error(self, BadNumber, "given", start, text.part, start, end)
        check_error(self, BadNumber, "given", 7, text.part, 7, -1)
        check_error(self, BadNumber, "given", 7, text.part, end=8, start=7)


if __name__ == "__main__":
    unittest.main()
