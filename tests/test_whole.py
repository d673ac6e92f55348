"""The whole: points [1], [2] and [33] over headers, registries, feeders and letters."""

import ast
import copy
import itertools
import pathlib
import unittest

from headerfold.feeding import Feeder, feed_all
from headerfold.headers import Laying, MomentHeader, PeopleHeader, PlainHeader, TypedHeader
from headerfold.letters import Letter
from headerfold.registry import Registry
from headerfold.texts import Text
from headerfold.trials import apply_all, would
from tests.test_headers_back import sample_headers

FOLDER = pathlib.Path(__file__).resolve().parent.parent / "headerfold"
WIDTHS = (50, 64, 78, 200)
CLASSES = (PlainHeader, PeopleHeader, TypedHeader, MomentHeader)
PARTS = ("a", "Bob", "<b@c>", ",", ";", ":", "k=\"x y\"", "k*1=z", "=?latin?h?=E9?=", "=?x?=", "(c", "\")", "7 Mar 2022",
         "=?wide?h?a?=")


def registry_of_kinds():
    return Registry(*[(f"X-{header_class.KIND}", header_class.KIND) for header_class in CLASSES])


def fed(text, registry):
    """What a feeder makes of the lines of a text."""
    feeder = Feeder(registry)
    found = [feeder.feed(line) for line in text.split("\n")]
    if not feeder.has_ended:
        found.append(feeder.finish())
    return [header for header in found if header is not None], feeder.strays


class ThereAndBack(unittest.TestCase):
    """Fact 9: each value of each kind at each width, by all that reads."""

    def check(self, header, width, registry):
        text = header.folded(width=width)
        for found in (header.__class__.read(text), registry(text), *fed(text, registry)[0], *fed(text + "\n", registry)[0],
                      *feed_all(tuple(text.split("\n")), registry), Letter.read(text, registry)[0]):
            self.assertIs(found.__class__, header.__class__)
            self.assertEqual(found, header)
            self.assertEqual((found.name, found.defects), (header.name, ()))
        self.assertEqual(fed(text, registry)[1], ())
        self.assertEqual(Laying(width)(header), text)
        self.assertEqual(Letter(header).written(width=width), text + "\n")

    def test_each_value(self):
        registry = registry_of_kinds()
        for place, header in enumerate(sample_headers()):
            made = registry.make(f"X-{header.KIND}", header.content)
            self.check(made, WIDTHS[place % 4], registry)

    def test_each_width(self):
        registry = registry_of_kinds()
        made = [registry.make(f"X-{header.KIND}", header.content) for header in list(sample_headers())[::29]]
        for width in range(50, 201, 10):
            for header in made:
                self.check(header, width, registry)

    def test_changed_letters(self):
        registry = registry_of_kinds()
        made = [registry.make(f"X-{header.KIND}", header.content) for header in list(sample_headers())[:200:9]]
        letter = Letter()
        for header in made:
            apply_all(letter, (("add", header), ("move", len(letter), 0)))
        self.assertEqual(letter.all_headers, tuple(made[::-1]))
        for width in WIDTHS:
            self.assertEqual(Letter.read(letter.written(width=width), registry), letter)
        letter.undo()
        self.assertEqual(Letter.read(letter.written(), registry).all_headers, would(letter, ()))


class EveryBody(unittest.TestCase):
    """Fact 10: the value of every body can be written, and is read again without defects."""

    def test_bodies(self):
        registry = registry_of_kinds()
        for row in itertools.product(PARTS, repeat=2):
            lines = [f"X-{header_class.KIND}: " + " ".join(row) for header_class in CLASSES]
            letter = Letter.read("\n".join(lines), registry)
            self.assertEqual([header.__class__ for header in letter.all_headers], list(CLASSES))
            again = Letter.read(letter.written(width=50), registry)
            self.assertEqual(again, letter)
            self.assertEqual(list(again.faults()), [])
            self.assertEqual(again.written(width=99), letter.written(width=99))

    def test_reading_never_fails(self):
        registry = registry_of_kinds()
        for text in ("\n", " ", ":", "a:", "\n\n\n", "a\n b\n:\nX-people:<\n >\nX-typed:;\nX-moment:(\nX-plain:=??=\n",
                     " \n \n", "X-people:" + "<" * 300 + "\nX-typed:" + ";\"" * 300 + "\nX-moment:" + "(" * 300):
            letter = Letter.read(text, registry)
            self.assertEqual(Letter.read(letter.written(), registry), letter)

    def test_defects_are_ordered(self):
        registry = registry_of_kinds()
        for row in itertools.product(PARTS, repeat=2):
            for header_class in CLASSES:
                text = f"X-{header_class.KIND}:" + "\n".join(row) + " \n"
                header = registry(text)
                self.assertEqual(header.defects, tuple(sorted(set(header.defects))))
                self.assertIs(header.is_clean, len(header.defects) == 0)


class Point2(unittest.TestCase):
    def test_nothing_from_outside(self):
        for file in FOLDER.glob("*.py"):
            for node in ast.walk(ast.parse(file.read_text())):
                self.assertNotIsInstance(node, ast.Import)
                if isinstance(node, ast.ImportFrom):
                    self.assertTrue(node.module.startswith("headerfold."), file)
                if isinstance(node, ast.Name):
                    self.assertNotIn(node.id, ("open", "print", "input"))

    def test_arguments_are_not_changed(self):
        registry = Registry(("X", "typed"))
        lines = ("X: a", "To: b", "")
        changes = (("add", PlainHeader("Y", Text("z"))), ("undo",))
        before = copy.copy(lines), copy.copy(changes)
        letter = Letter(*feed_all(lines, registry))
        would(letter, changes)
        self.assertEqual((lines, changes), before)
        self.assertEqual((len(letter), letter.undoable, letter.redoable, len(registry)), (2, 0, 0, 9))

    def test_two_at_a_time(self):
        one, other = Letter.read("a: b"), Letter.read("a: b")
        one.add(PlainHeader("X", Text()))
        self.assertEqual((len(one), len(other), other.undoable), (2, 1, 0))


if __name__ == "__main__":
    unittest.main()
