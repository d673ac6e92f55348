"""headerfold.registry: the interface, and point [5] for names and header texts."""

import inspect
import unittest

from headerfold.errors import BadContent, BadHeader, BadKind, BadLabel
from headerfold.headers import MomentHeader, PeopleHeader, PlainHeader, TypedHeader
from headerfold.moments import Moment
from headerfold.registry import Registry
from headerfold.texts import Text
from headerfold.typed import Typed
from tests.support import check_error, wrong_objects
from tests.test_headers import NO_LABELS, NO_TEXTS

AT_FIRST = {"from": "people", "to": "people", "cc": "people", "reply-to": "people", "sender": "people", "date": "moment",
            "content-form": "typed", "content-place": "typed"}
CLASSES = {"plain": PlainHeader, "people": PeopleHeader, "typed": TypedHeader, "moment": MomentHeader}
CONTENTS = {"plain": Text("a"), "people": (), "typed": Typed("m"), "moment": Moment(1, 1, 1)}
NO_KINDS = wrong_objects() + ["", "none", "Plain", "plain ", "PEOPLE", "text", "a", (), ("plain",), 0, Text("plain"),
                              PlainHeader]


class Interface(unittest.TestCase):
    def test_names_and_parameters(self):
        self.assertEqual(Registry.__module__, "headerfold.registry")
        for name in ("assign", "kind_of", "make", "twin", "__call__", "__contains__", "__len__"):
            self.assertIn(name, vars(Registry))
        rows = inspect.signature(Registry).parameters["rows"]
        self.assertEqual(rows.kind, inspect.Parameter.VAR_POSITIONAL)

    def test_by_name(self):
        registry = Registry()
        self.assertIsNone(registry.assign(kind="typed", name="X"))
        self.assertEqual(registry.kind_of(name="x"), "typed")
        self.assertEqual(registry(text="x: a").KIND, "typed")
        self.assertEqual(registry.make(content=Typed("a"), name="X").KIND, "typed")


class AtFirst(unittest.TestCase):
    def test_names_that_have_a_kind(self):
        registry = Registry()
        self.assertEqual(len(registry), 8)
        for name, kind in AT_FIRST.items():
            for form in (name, name.upper(), name.title(), name.swapcase()):
                self.assertEqual(registry.kind_of(form), kind)
                self.assertIs(form in registry, True)

    def test_all_other_names_are_plain(self):
        registry = Registry()
        for name in ("subject", "X", "tos", "t", "reply", "replyto", "content", "content-", "a" * 20, "dates", "bcc"):
            self.assertEqual(registry.kind_of(name), "plain")
            self.assertIs(name in registry, False)

    def test_each_registry_is_a_new_one(self):
        Registry().assign("x", "typed")
        Registry(("to", "plain"))
        self.assertEqual(Registry().kind_of("x"), "plain")
        self.assertEqual(Registry().kind_of("to"), "people")
        self.assertEqual(len(Registry()), 8)


class Assigning(unittest.TestCase):
    def test_assign(self):
        registry = Registry()
        for place, kind in enumerate(CLASSES):
            self.assertIsNone(registry.assign(f"X-{place}", kind))
            self.assertEqual(registry.kind_of(f"x-{place}"), kind)
            self.assertIs(f"x-{place}" in registry, True)
            self.assertEqual(len(registry), 9 + place)

    def test_assign_again(self):
        registry = Registry()
        registry.assign("ab", "typed")
        registry.assign("AB", "moment")
        registry.assign("Date", "people")
        self.assertEqual([registry.kind_of(name) for name in ("ab", "aB", "date", "to")],
                         ["moment", "moment", "people", "people"])
        self.assertEqual(len(registry), 9)

    def test_back_to_plain(self):
        registry = Registry()
        registry.assign("To", "plain")
        self.assertEqual(registry.kind_of("to"), "plain")
        self.assertEqual(registry("To: a@b").KIND, "plain")
        # It still is a kind that was assigned.
        self.assertIs("to" in registry, True)
        self.assertEqual(len(registry), 8)

    def test_rows(self):
        registry = Registry(("X", "typed"), ("to", "plain"), ("x", "moment"), ("Y", "people"))
        self.assertEqual([registry.kind_of(name) for name in ("x", "to", "y", "cc")],
                         ["moment", "plain", "people", "people"])
        self.assertEqual(len(registry), 10)

    def test_rows_that_are_no_pairs(self):
        for wrong in wrong_objects() + ["ab", (), ("X",), ("X", "plain", "a"), ["X", "plain"], 1, Text("ab")]:
            check_error(self, BadKind, "given", None, Registry, wrong)
            check_error(self, BadKind, "given", None, Registry, ("X", "plain"), wrong)
            # All rows must be pairs before one of them is assigned.
            check_error(self, BadKind, "given", None, Registry, ("1", "x"), ("X", "plain"), wrong)

    def test_wrong_names_and_kinds(self):
        registry = Registry()
        for name in NO_LABELS:
            check_error(self, BadLabel, "given", name, registry.assign, name, "plain")
            check_error(self, BadLabel, "given", name, registry.assign, name, None)
            check_error(self, BadLabel, "given", name, Registry, ("X", "plain"), (name, None), ("Y", "z"))
            check_error(self, BadLabel, "given", name, registry.kind_of, name)
        for kind in NO_KINDS:
            check_error(self, BadKind, "given", kind, registry.assign, "X", kind)
            check_error(self, BadKind, "given", kind, registry.assign, "to", kind)
            check_error(self, BadKind, "given", kind, Registry, ("X", kind), ("1", "plain"))
        self.assertEqual(len(registry), 8)
        self.assertEqual(registry.kind_of("to"), "people")
        self.assertIs("X" in registry, False)


class Calling(unittest.TestCase):
    def test_header_of_its_name(self):
        registry = Registry(("Plain", "plain"), ("Form", "typed"))
        for text, kind in (("To: a@b", "people"), ("TO:a@b\n", "people"), ("Date:\n 7 Mar", "moment"), ("X: y", "plain"),
                           ("Content-Form: a; b=c", "typed"), ("form: a", "typed"), ("Plain: To: a", "plain"),
                           ("reply-TO: a", "people"), ("Sender:", "people"), ("content-place: x", "typed")):
            header = registry(text)
            self.assertIs(header.__class__, CLASSES[kind])
            expected = CLASSES[kind].read(text)
            self.assertEqual((header, header.name, header.defects), (expected, expected.name, expected.defects))

    def test_no_header_texts(self):
        for text in NO_TEXTS:
            check_error(self, BadHeader, "given", text, Registry(), text)


class Asking(unittest.TestCase):
    def test_other_objects_are_not_in_it(self):
        registry = Registry(("a", "typed"), ("X", "plain"))
        for thing in NO_LABELS + ["to ", " to", "to:", b"to", ("to",)]:
            self.assertIs(thing in registry, False)

    def test_make(self):
        registry = Registry(("X-plain", "plain"), ("X-people", "people"), ("X-typed", "typed"), ("X-moment", "moment"))
        for kind, header_class in CLASSES.items():
            for name in (f"X-{kind}", f"x-{kind.upper()}"):
                header = registry.make(name, CONTENTS[kind])
                self.assertIs(header.__class__, header_class)
                self.assertEqual((header.name, header.defects), (name, ()))
                self.assertIs(header.content, CONTENTS[kind])
        self.assertIs(registry.make("Other", Text("a")).__class__, PlainHeader)
        self.assertIsNone(registry.make("Date", None).content)

    def test_make_of_what_is_wrong(self):
        registry = Registry()
        for name in NO_LABELS:
            check_error(self, BadLabel, "given", name, registry.make, name, Text("a"))
            check_error(self, BadLabel, "given", name, registry.make, name, 7)
        for name, kind in (("X", "plain"), ("To", "people"), ("Content-Form", "typed"), ("date", "moment")):
            wrong = [content for other, content in CONTENTS.items() if other != kind]
            for content in wrong + ["a", 0, []]:
                check_error(self, BadContent, "given", content, registry.make, name, content)

    def test_twin(self):
        one = Registry(("X", "typed"))
        other = one.twin()
        self.assertIs(other.__class__, Registry)
        self.assertEqual((other.kind_of("x"), other.kind_of("to"), len(other)), ("typed", "people", 9))
        one.assign("X", "moment")
        other.assign("to", "plain")
        other.assign("Y", "typed")
        self.assertEqual([one.kind_of(name) for name in ("x", "to", "y")], ["moment", "people", "plain"])
        self.assertEqual([other.kind_of(name) for name in ("x", "to", "y")], ["typed", "plain", "typed"])
        self.assertEqual((len(one), len(other), "y" in one, "y" in other), (9, 10, False, True))

    def test_twin_of_what_was_set_to_plain(self):
        one = Registry(("to", "plain"), ("date", "plain"))
        self.assertEqual((one.twin().kind_of("to"), one.twin().kind_of("date"), len(one.twin())), ("plain", "plain", 8))


if __name__ == "__main__":
    unittest.main()
