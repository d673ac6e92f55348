"""headerfold.headers: points [5] and [6] for header texts, and the interface."""

import inspect
import unittest

from headerfold import headers
from headerfold.errors import BadContent, BadHeader, BadLabel, BadWidth
from headerfold.headers import Header, Laying, MomentHeader, PeopleHeader, PlainHeader, TypedHeader
from headerfold.laying import laid_out
from headerfold.moments import Moment
from headerfold.people import Group, Mailbox
from headerfold.texts import Text
from headerfold.typed import Typed
from tests.support import Agreeable, check_error, wrong_objects

NO_LABELS = wrong_objects() + ["", "1", "-a", "1a", "a b", "a:", "a_b", "a" * 21, "\xe9", "a\n", (), ("a",), 1, Text("a")]
NO_WIDTHS = wrong_objects() + ["78", "", (), (78,), 0, 1, 49, 201, -78, 10 ** 399, Text("a")]
NO_TEXTS = wrong_objects() + ["", ":", "a", " a: b", "a : b", "\na: b", "1a: b", "-a: b", "a" * 21 + ": b", "a_b: c",
                              "a\n: b", "a b: c", "\xe9: a", "a: \xe9", "a: " + chr(37), "a: \t", "a", "a\nb: c", (),
                              ("a: b",), 1, Text("a: b")]
BOX = Mailbox(Text("Bob"), ("b", "c"))
TEXT, ENTRIES = Text("a b"), (BOX, Group(Text("g"), (BOX, BOX)))
TYPED, MOMENT = Typed.of("m", k="x", l="y"), Moment(2022, 3, 7, 9, 5, 3, zone=60)
KINDS = {"plain": (PlainHeader, [TEXT, Text()]), "people": (PeopleHeader, [ENTRIES, (), (BOX,)]),
         "typed": (TypedHeader, [TYPED, Typed("m")]), "moment": (MomentHeader, [MOMENT, None])}
CLASSES = [header_class for header_class, _ in KINDS.values()]


def one_of_each():
    return [header_class("Name", contents[0]) for header_class, contents in KINDS.values()]


class Interface(unittest.TestCase):
    def test_classes(self):
        for kind, (header_class, _) in KINDS.items():
            self.assertTrue(issubclass(header_class, Header))
            self.assertEqual((header_class.KIND, header_class.__module__), (kind, "headerfold.headers"))
            self.assertIn("KIND", vars(header_class))
            self.assertEqual(list(inspect.signature(header_class).parameters), ["name", "content"])
            self.assertIsInstance(vars(header_class)["read"], classmethod)
            for name in ("pieces", "summary"):
                self.assertTrue(inspect.isfunction(vars(header_class)[name]))
        self.assertEqual((Header.KIND, Header.__module__), ("none", "headerfold.headers"))

    def test_methods_of_the_base(self):
        for name in ("name", "content", "defects", "is_clean"):
            self.assertIsInstance(vars(Header)[name], property)
        for name in ("folded", "changed", "__eq__", "__str__", "__len__"):
            self.assertIn(name, vars(Header))
            for header_class in CLASSES:
                self.assertNotIn(name, vars(header_class))

    def test_widths_by_name_only(self):
        for header in one_of_each():
            for call in (header.pieces, header.folded):
                width = inspect.signature(call).parameters["width"]
                self.assertEqual((width.kind, width.default), (inspect.Parameter.KEYWORD_ONLY, 78))
                with self.assertRaises(TypeError):
                    call(78)

    def test_laying(self):
        self.assertEqual(Laying.__module__, "headerfold.headers")
        self.assertEqual(inspect.signature(Laying).parameters["width"].default, 78)
        self.assertIsInstance(vars(Laying)["width"], property)
        self.assertIn("__call__", vars(Laying))
        self.assertIn("all_of", vars(Laying))

    def test_example(self):
        header = PlainHeader.read("Subject:\n hello\n  =?latin?q?x?= you\n")
        self.assertEqual((header.name, str(header.content), header.defects, header.pieces()[0]),
                         ("Subject", "hello  =?latin?q?x?= you", ((7, "coding"),), "hello"))
        self.assertEqual(TypedHeader.read("Kind: a; b=c").summary(), ["Kind: typed", "keys b"])


class Making(unittest.TestCase):
    def test_properties(self):
        for header_class, contents in KINDS.values():
            for content in contents:
                header = header_class("X-Name", content)
                self.assertEqual((header.name, header.defects), ("X-Name", ()))
                self.assertIs(header.content, content)
                self.assertIs(header.is_clean, True)
                self.assertIs(header_class(content=content, name="a").content, content)

    def test_names(self):
        for name in ("a", "A", "a" * 20, "X-", "a1", "Z--9"):
            for header_class, contents in KINDS.values():
                self.assertEqual(header_class(name, contents[0]).name, name)

    def test_wrong_names(self):
        for header_class, contents in KINDS.values():
            for name in NO_LABELS:
                check_error(self, BadLabel, "given", name, header_class, name, contents[0])
                check_error(self, BadLabel, "given", name, header_class, name, 7)
                check_error(self, BadLabel, "given", name, header_class, content=7, name=name)

    def wrong_contents(self, kind):
        wrong = [content for other, (_, contents) in KINDS.items() if other != kind for content in contents]
        wrong += ["a", "", 0, [BOX], (BOX, None), (BOX, "a"), ((BOX,),), (Text("a"),), PlainHeader("X", TEXT), BOX]
        return wrong + [one for one in wrong_objects() if one is not None]

    def test_wrong_contents(self):
        for kind, (header_class, contents) in KINDS.items():
            header = header_class("Name", contents[0])
            for wrong in self.wrong_contents(kind):
                check_error(self, BadContent, "given", wrong, header_class, "Name", wrong)
                check_error(self, BadContent, "given", wrong, header.changed, wrong)
                self.assertIs(header.content, contents[0])


class Reading(unittest.TestCase):
    def check(self, text, name, content, *defects):
        header = PlainHeader.read(text)
        self.assertIs(header.__class__, PlainHeader)
        self.assertEqual((header.name, str(header.content), header.defects), (name, content, defects), text)
        self.assertIs(header.defects.__class__, tuple)
        self.assertIs(header.is_clean, defects == ())

    def test_names(self):
        self.check("a: b", "a", "b")
        self.check("X-Y9: b", "X-Y9", "b")
        self.check("a" * 20 + ": b", "a" * 20, "b")
        self.check("A:b:c", "A", "b:c")
        self.check("a::", "a", ":")

    def test_empty_rests(self):
        for text in ("a:", "a: ", "a:\n", "a: \n", "a:\n ", "a:\n \n"):
            self.check(text, "a", "")

    def test_newline_at_the_very_end(self):
        self.check("a: b\n", "a", "b")
        self.check("a: b\n\n", "a", "b", (1, "line"))
        self.check("a: b\n\n\n", "a", "b", (1, "line"), (2, "line"))
        self.check("a: b \n", "a", "b")
        self.check("a:\n\n", "a", "", (0, "line"))
        self.check("a: \n\n", "a", "", (0, "line"))

    def test_behind_the_colon(self):
        # Positions show what was left out: they count from what remains.
        self.check("a:=?x?=", "a", "=?x?=", (0, "parts"))
        self.check("a: =?x?=", "a", "=?x?=", (0, "parts"))
        self.check("a:  =?x?=", "a", "=?x?=", (1, "parts"))
        self.check("a:\n =?x?=", "a", "=?x?=", (0, "parts"))
        self.check("a:\n  =?x?=", "a", "=?x?=", (1, "parts"))
        self.check("a: \n =?x?=", "a", "=?x?=", (1, "parts"))
        self.check("a:\n=?x?=", "a", "=?x?=", (0, "line"), (1, "parts"))
        self.check("a:\n\n =?x?=", "a", "=?x?=", (0, "line"), (2, "parts"))
        self.check("a:\n \n =?x?=", "a", "=?x?=", (1, "parts"))

    def test_folds_and_other_newlines(self):
        self.check("a: b\n c\n  d", "a", "b c  d")
        self.check("a: b\nc\n d", "a", "b c d", (1, "line"))
        self.check("a: b\n\n c", "a", "b  c", (1, "line"))
        self.check("a: b\nc: d", "a", "b c: d", (1, "line"))

    def test_defects_of_unfolding_and_of_reading(self):
        self.check("a: =?x?=\nb\n =?latin?q?x?= c\nd", "a", "=?x?= b =?latin?q?x?= c d",
                   (0, "parts"), (5, "line"), (8, "coding"), (23, "line"))

    def test_defects_at_one_position(self):
        header = TypedHeader.read("k: a\nb")
        self.assertEqual(header.defects, ((1, "line"), (1, "main")))
        header = PeopleHeader.read("k: (a\n")
        self.assertEqual(header.defects, ((0, "comment"),))

    def test_people(self):
        header = PeopleHeader.read("To: Bob <b@c>,\n g: a@b, Jo <\nd@e>;\n")
        self.assertIs(header.__class__, PeopleHeader)
        group = Group(Text("g"), (Mailbox(Text(), ("a", "b")), Mailbox(Text("Jo"), ("d", "e"))))
        self.assertEqual(header.content, (BOX, group))
        self.assertEqual(header.defects, ((23, "line"),))
        self.assertEqual(PeopleHeader.read("To: a, ").defects, ((0, "address"), (3, "empty")))

    def test_typed(self):
        header = TypedHeader.read("Kind:\n m; k=x;\n l=y; k=z")
        self.assertIs(header.__class__, TypedHeader)
        self.assertEqual((header.content, header.defects), (TYPED, ((13, "double"),)))

    def test_moments(self):
        header = MomentHeader.read("Date: Mon, 7 Mar 2022\n 09:05:03 +0100\n")
        self.assertIs(header.__class__, MomentHeader)
        self.assertEqual((header.content, header.defects), (MOMENT, ()))
        header = MomentHeader.read("Date:")
        self.assertEqual((header.content, header.defects, header.is_clean), (None, (), True))
        header = MomentHeader.read("Date: Mon")
        self.assertEqual((header.content, header.defects), (None, ((3, "comma"), (3, "day"))))

    def test_by_name(self):
        for header_class in CLASSES:
            self.assertEqual(header_class.read(text="Name: ").name, "Name")

    def test_no_header_texts(self):
        for header_class in CLASSES:
            for text in NO_TEXTS:
                check_error(self, BadHeader, "given", text, header_class.read, text)


class Writing(unittest.TestCase):
    def test_pieces(self):
        self.assertEqual([header.pieces() for header in one_of_each()], [
            ("a", "b"), ("Bob", "<b@c>,", "g", ":", "Bob", "<b@c>,", "Bob", "<b@c>", ";"), ("m;", "k=x;", "l=y"),
            ("Mon,", "7", "Mar", "2022", "09:05:03", "+0100")])
        self.assertEqual(MomentHeader("a", None).pieces(), ())
        self.assertEqual(PlainHeader("a", Text("x" * 60)).pieces(width=50), (Text("x" * 60),))
        self.assertEqual(PlainHeader("a", Text("x" * 60)).pieces(), ("x" * 60,))
        self.assertEqual(len(TypedHeader("a", Typed.of("m", k="x" * 60)).pieces(width=50)), 3)

    def test_folding(self):
        header = PlainHeader("Subject", Text("word " * 40 + "end"))
        for width in (50, 51, 78, 200):
            text = header.folded(width=width)
            lines = text.split("\n")
            self.assertTrue(all(len(line) <= width for line in lines))
            self.assertTrue(all(len(line) > width - 5 for line in lines[:-1]))
            self.assertEqual(text.replace("\n", ""), "Subject:" + " word" * 40 + " end")
            self.assertEqual(PlainHeader.read(text), header)
        self.assertEqual(header.folded(), header.folded(width=78))

    def test_folded_without_pieces(self):
        self.assertEqual(PlainHeader("a", Text()).folded(width=50), "a:")
        self.assertEqual(MomentHeader("Date", None).folded(width=50), "Date:")
        self.assertEqual(PeopleHeader("To", ()).folded(width=200), "To:")

    def test_wrong_widths(self):
        for header in one_of_each() + [MomentHeader("a", None), PeopleHeader("a", ())]:
            for width in NO_WIDTHS:
                check_error(self, BadWidth, "given", width, header.pieces, width=width)
                check_error(self, BadWidth, "given", width, header.folded, width=width)

    def test_string_and_length(self):
        for many in (1, 2, 40, 100):
            header = PlainHeader("Subject", Text("words " * many))
            self.assertEqual(str(header), header.folded(width=78))
            self.assertEqual(len(header), len(header.folded().split("\n")))
        self.assertEqual(len(PlainHeader("a", Text())), 1)
        self.assertEqual([len(header) for header in one_of_each()], [1, 1, 1, 1])
        self.assertEqual(str(TypedHeader("Kind", TYPED)), "Kind: m; k=x; l=y")
        self.assertIs(len(TypedHeader("K", Typed.of("m", k="x" * 200))).__class__, int)
        self.assertEqual(len(TypedHeader("K", Typed.of("m", k="x" * 200))), 4)


    def test_string_and_length_of_all_kinds(self):
        boxes = tuple(Mailbox(Text(f"Bob {number}"), ("b", "c")) for number in range(30))
        contents = {"plain": [Text("word " * 50), Text.of((233, 32, 8364) * 60)],
                    "people": [boxes, (Group(Text("g"), boxes, ("note",)), BOX)],
                    "typed": [Typed.of("m", k="x" * 300, l="y z"), Typed("n" * 90).put("k", Text.of((8364,) * 90))],
                    "moment": [Moment(1, 1, 1), Moment(9999, 12, 31, 23, 59, 59, zone=-899)]}
        for kind, (header_class, some) in KINDS.items():
            for content in some + contents[kind]:
                for name in ("X", "N" * 20):
                    header = header_class(name, content)
                    text = header.folded(width=78)
                    self.assertIs(str(header).__class__, str)
                    self.assertEqual((str(header), str(header.folded())), (text, text))
                    self.assertEqual(laid_out(name, header.pieces(width=78), width=78), text)
                    self.assertEqual(len(header), text.count("\n") + 1)
                    self.assertEqual((header_class.read(text), header.content), (header, content))
        long = [KINDS[kind][0]("X", contents[kind][0]) for kind in ("plain", "people", "typed")]
        self.assertEqual([len(header) for header in long], [4, 6, 6])

    def test_string_and_length_of_what_was_read(self):
        for header_class, text, string in (
                (PlainHeader, "a:\n b\nc  =?x?=", "a: b c =?latin?s?ID0-eD89?="),
                (PeopleHeader, "a: Bob <b@c, g:", "a: Bob <b@c>, g : ;"),
                (TypedHeader, "a: m n;;K=1;k=2", "a: m; k=1"),
                (MomentHeader, "a: 32 Jan 2000", "a: Mon, 31 Jan 2000 00:00:00 +0000")):
            header = header_class.read(text)
            self.assertFalse(header.is_clean)
            self.assertEqual((str(header), header.folded(width=78), len(header)), (string, string, 1))


class Changing(unittest.TestCase):
    def test_changed(self):
        for header_class, contents in KINDS.values():
            header = header_class("Name", contents[0])
            other = header.changed(contents[1])
            self.assertIs(other.__class__, header_class)
            self.assertEqual((other.name, other.defects), ("Name", ()))
            self.assertIs(other.content, contents[1])
            self.assertIs(header.content, contents[0])
            self.assertIs(header.changed(content=contents[1]).content, contents[1])

    def test_without_defects(self):
        header = TypedHeader.read("Kind: a b")
        self.assertEqual((header.changed(TYPED).defects, header.defects), ((), ((1, "main"),)))
        self.assertEqual(header.changed(header.content).defects, ())


class Summaries(unittest.TestCase):
    def test_without_defects(self):
        for header, lines in (
                (PlainHeader("a", Text.of((233, 32))), ["a: plain", "codes 2"]),
                (PlainHeader("A-b", Text()), ["A-b: plain", "codes 0"]),
                (PeopleHeader("To", ENTRIES), ["To: people", "people 3"]),
                (PeopleHeader("To", ()), ["To: people", "people 0"]),
                (PeopleHeader("To", (Group(Text("g"), ()),)), ["To: people", "people 0"]),
                (TypedHeader("K", TYPED), ["K: typed", "keys k l"]),
                (TypedHeader("K", Typed("m")), ["K: typed", "keys"]),
                (MomentHeader("D", MOMENT), ["D: moment", f"instant {MOMENT.instant}"]),
                (MomentHeader("D", None), ["D: moment", "none"])):
            self.assertEqual(header.summary(), lines)
            self.assertIs(header.summary().__class__, list)

    def test_with_defects(self):
        for header, lines in (
                (PlainHeader.read("a: b\n=?x?="), ["a: plain", "1 line", "2 parts", "codes 7"]),
                (PeopleHeader.read("To: a, ,"), ["To: people", "0 address", "3 empty", "4 empty", "people 1"]),
                (TypedHeader.read("K: a b; k*=x"), ["K: typed", "1 main", "8 shape", "keys k"]),
                (MomentHeader.read("D: 1 Jan 0001"), ["D: moment", "10 time", "10 zone", "instant 86400"]),
                (MomentHeader.read("D: ("), ["D: moment", "0 comment", "none"])):
            self.assertEqual(header.summary(), lines)


class Equality(unittest.TestCase):
    def test_class_name_and_content(self):
        for header_class, contents in KINDS.values():
            header = header_class("Name-1", contents[0])
            for other in (header, header_class("Name-1", contents[0]), header_class("nAME-1", contents[0])):
                self.assertIs(header == other, True)
                self.assertIs(header != other, False)
            for other in (header_class("Name-2", contents[0]), header_class("Name-1", contents[1]),
                          header_class("Name1", contents[0])):
                self.assertIs(header == other, False)
                self.assertIs(header != other, True)

    def test_different_classes(self):
        made = one_of_each() + [MomentHeader("Name", None), PeopleHeader("Name", ()), PlainHeader("Name", Text())]
        for place, one in enumerate(made):
            self.assertEqual([one == other for other in made], [place == at for at in range(len(made))])

    def test_not_the_defects(self):
        self.assertEqual(PlainHeader.read("a: b\n\n"), PlainHeader("A", Text("b")))
        self.assertEqual(TypedHeader.read("a: b c"), TypedHeader.read("a: b"))

    def test_other_objects(self):
        for header in one_of_each():
            others = [one for one in wrong_objects() if one.__class__ is not Agreeable]
            for other in others + [str(header), header.content, (header,)]:
                self.assertIs(Header.__eq__(header, other), False)


class Layings(unittest.TestCase):
    def setUp(self):
        self.made = one_of_each() + [PlainHeader("Long", Text("word " * 60)), PlainHeader("Empty", Text())]

    def test_width(self):
        self.assertEqual([Laying().width, Laying(50).width, Laying(width=200).width], [78, 50, 200])
        for width in NO_WIDTHS:
            check_error(self, BadWidth, "given", width, Laying, width)
            check_error(self, BadWidth, "given", width, Laying, width=width)

    def test_call(self):
        for width in (50, 78, 200):
            laying = Laying(width)
            for header in self.made:
                self.assertEqual(laying(header), header.folded(width=width))
                self.assertEqual(laying(header=header), header.folded(width=width))

    def test_all_of(self):
        for width in (50, 200):
            laying = Laying(width)
            texts = [header.folded(width=width) for header in self.made]
            self.assertEqual(laying.all_of(*self.made), "\n".join(texts))
            self.assertEqual(laying.all_of(self.made[0]), texts[0])
            self.assertEqual(laying.all_of(), "")

    def test_no_headers(self):
        for wrong in wrong_objects() + ["a: b", "", (), (self.made[0],), 0, TEXT, PlainHeader]:
            check_error(self, BadHeader, "given", wrong, Laying(), wrong)
            check_error(self, BadHeader, "given", wrong, Laying().all_of, wrong)
            check_error(self, BadHeader, "given", wrong, Laying().all_of, *self.made, wrong, "a")


class Helpers(unittest.TestCase):
    def test_by_kind(self):
        for kind, (header_class, contents) in KINDS.items():
            self.assertIs(headers.header_of(kind, "Name", contents[0]).__class__, header_class)
            self.assertIs(headers.header_read_as(kind, "Name: 1").__class__, header_class)


if __name__ == "__main__":
    unittest.main()
