"""Point [33] with Facts 9, 10 and 11 for headers of all four kinds, and Facts 3 and 4 of [14]."""

import itertools
import unittest

from headerfold.headers import Laying, MomentHeader, PeopleHeader, PlainHeader, TypedHeader
from headerfold.marks import MARKS, unfolded
from tests.test_moments import sample_moments
from tests.test_people_back import sample_entries
from tests.test_plain import sample_texts
from tests.test_typed_back import sample_typed

CLASSES = (PlainHeader, PeopleHeader, TypedHeader, MomentHeader)
NAMES = ("X", "Header-Of-20-Letters")
PARTS = ("", "a", "Bob", "<b@c>", ",", ";", ":", "k=\"x y\"", "k*1=z", "=?latin?h?=E9?=", "=?x?=", "(c", "\")",
         "7 Mar 2022", "\n", "\n ", "\n\n", "=?wide?h?a?=")


def sample_headers():
    for header_class, values in ((PlainHeader, list(sample_texts())[::5]), (PeopleHeader, list(sample_entries())[::17]),
                                 (TypedHeader, list(sample_typed())[::3]), (MomentHeader, [None, *sample_moments()][::9])):
        for place, value in enumerate(values):
            yield header_class(NAMES[place % 2], value)


class Written(unittest.TestCase):
    def test_fact_nine(self):
        for header in sample_headers():
            for width in (50, 67, 78, 200):
                text = header.folded(width=width)
                found = header.__class__.read(text)
                self.assertEqual(found, header)
                self.assertEqual(found.name, header.name)
                self.assertEqual(found.defects, ())
                # What was read is written at any other width as the value is written at once.
                for other in (50, 93):
                    self.assertEqual(found.folded(width=other), header.folded(width=other))

    def test_with_a_newline_at_the_end(self):
        for header in list(sample_headers())[::7]:
            found = header.__class__.read(header.folded(width=60) + "\n")
            self.assertEqual((found, found.defects), (header, ()))

    def test_facts_three_and_four(self):
        for header in sample_headers():
            for width in (50, 78):
                lines = header.folded(width=width).split("\n")
                pieces = header.pieces(width=width)
                self.assertEqual(unfolded("\n".join(lines))[1], ())
                for line in lines:
                    if len(line) > width:
                        self.assertEqual(line[0], " ")
                        self.assertIn(line[1:], pieces)

    def test_fact_eleven(self):
        for header in sample_headers():
            for line in header.folded(width=50).split("\n"):
                if header.KIND in ("plain", "moment"):
                    self.assertLessEqual(len(line), 50)
                if header.KIND == "typed" and len(line) > 50:
                    self.assertEqual(line[1:].removesuffix(";"), header.content.main)

    def test_laying_reads_the_same(self):
        made = list(sample_headers())[::5]
        for width in (50, 120):
            laying = Laying(width)
            texts = [laying(header) for header in made]
            self.assertEqual(laying.all_of(*made), "\n".join(texts))
            for header, text in zip(made, texts):
                self.assertEqual(header.__class__.read(text), header)


class Read(unittest.TestCase):
    def check(self, header_class, text):
        header = header_class.read(text)
        self.assertEqual(header.defects, tuple(sorted(set(header.defects))))
        # [33]: at most what unfolding leaves of the text.
        for position, word in header.defects:
            self.assertTrue(0 <= position <= len(text) and word.isalpha() and word.islower())
        again = header_class.read(header.folded(width=50))
        self.assertEqual((again, again.defects), (header, ()))
        self.assertEqual(again.folded(width=90), header.folded(width=90))

    def test_fact_ten(self):
        for row in itertools.product(PARTS, repeat=2):
            for header_class in CLASSES:
                self.check(header_class, "X:" + " ".join(row))
                self.check(header_class, "X:" + "".join(row) + "\n")
        for row in itertools.product(PARTS[::2], repeat=3):
            for header_class in CLASSES:
                self.check(header_class, "X: " + "".join(row))

    def test_long_bodies(self):
        for body in (MARKS * 20, MARKS[::-1] * 20, "a, " * 600, "\n" * 500, " \n" * 500, "\"" * 500, "(" * 500, ";" * 500,
                     "=?latin?h?a?= " * 100, "a;" + "k=x;" * 400, "<" * 500, ":" * 500, "@" * 500):
            for header_class in CLASSES:
                self.check(header_class, "X: " + body)


if __name__ == "__main__":
    unittest.main()
