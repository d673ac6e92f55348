"""headerfold.people, there and back: Fact 6 of [24], Facts 9, 10 and 11 of [33]."""

import itertools
import unittest

from headerfold.laying import body_of, lines_of
from headerfold.marks import MARKS, is_atom, is_body
from headerfold.people import Group, Mailbox, mailboxes_of, people_pieces, read_people
from headerfold.texts import Text

OTHER = Text.of((233,))
LABELS = [
    Text(), Text("a"), Text("a b"), Text("a, b"), Text(" "), Text("  a "), Text("\"\\\""), Text("=?x?="),
    Text("=?latin?h?a?="), Text("a =??= b"), Text("x" * 90), Text("x y " * 30), OTHER, Text("a ") + OTHER + Text(" b"),
    Text(" ") + OTHER + Text(" "), Text("a  b ") + OTHER, Text("=?x?= ") + OTHER + Text(" a, c"), Text("{233}"),
    Text.of((233, 32, 8364) * 40), Text("b ") + Text.of((65535,) * 70) + Text(" c"), Text(MARKS), Text(MARKS) + OTHER,
]
ADDRESSES = [None, ("a", "b"), ("", "b.c"), ("a b", "c"), ("\"\\(", "\\"), ("=?x?=", "=?x?="), (MARKS, "a"),
             ("l" * 100, "d" * 100)]
COMMENTS = [(), ("",), ("c",), ("(", ")"), ("\\", "a(b)c\\"), (" a ", "\"", "<a@b>,;:"), (MARKS,), ("c " * 60,)]


def sample_mailboxes():
    for label, address in itertools.product(LABELS, ADDRESSES):
        yield Mailbox(label, address)
    for label, address, comments in itertools.product(LABELS[::5], ADDRESSES[::2], COMMENTS):
        yield Mailbox(label, address, comments)


def sample_entries():
    """Tuples of entries of all kinds."""
    yield ()
    mailboxes = list(sample_mailboxes())
    for mailbox in mailboxes:
        yield (mailbox,)
    few = mailboxes[::23]
    groups = [Group(label, members, comments) for label, members, comments in itertools.product(
        LABELS[::3], ((), tuple(few[:1]), tuple(few[1:3]), tuple(few)), COMMENTS[:6:2])]
    for group in groups:
        yield (group,)
    yield from itertools.product(few[::3] + groups[::11], repeat=2)
    yield tuple(few + groups[::3])


def sample_bodies():
    """Bodies of all kinds: all short rows of some parts."""
    for length, parts in ((4, "a<>@,:;"), (3, "a <>@,:;()\"\\"), (5, "a@,:;"), (5, "(\")\\")):
        for row in itertools.product(parts, repeat=length):
            yield "".join(row)
    words = ("=?latin?h?_=E9?=", "=?x?=", "=?wide?h?a?=", "a", "\"b c\"", "(d)", "<", "@", ",", ":", ";")
    for row in itertools.product(words, repeat=3):
        yield " ".join(row)
    yield MARKS
    yield MARKS[::-1]
    yield " ".join(MARKS)
    yield "=?latin?h?" + "a" * 300 + "?= <x@y>"
    yield "a@b, " * 300


class Written(unittest.TestCase):
    def check(self, entries, width):
        body = body_of(people_pieces(entries), width=width)
        found, defects = read_people(body)
        self.assertEqual(found, entries)
        self.assertEqual(defects, (), body)
        self.assertEqual(people_pieces(found), people_pieces(entries))

    def test_facts_six_and_nine(self):
        for place, entries in enumerate(sample_entries()):
            self.check(entries, (50, 78, 200, 61)[place % 4])

    def test_at_every_width(self):
        entries = tuple(Mailbox(label, ADDRESSES[place % 8], COMMENTS[place % 8]) for place, label in enumerate(LABELS))
        for width in range(50, 201, 5):
            self.check((*entries, Group(LABELS[-1], entries, ("c",)), Group(Text("g"), ())), width)

    def test_fact_eleven(self):
        for place, entries in enumerate(sample_entries()):
            if place % 5 > 0:
                continue
            for line in lines_of("Name", people_pieces(entries), width=50):
                if len(line) > 50:
                    # A name in quotes, an address, a comment, or an atom of a name.
                    piece = line[1:].removesuffix(",")
                    self.assertTrue(piece[0] in "\"(<" or "@" in piece or is_atom(piece), line)
                    self.assertIn(line[1:], people_pieces(entries))


class Read(unittest.TestCase):
    def check(self, body):
        entries, defects = read_people(body)
        self.assertEqual(defects, tuple(sorted(set(defects))))
        for position, _ in defects:
            self.assertTrue(0 <= position <= len(body))
        for entry in entries:
            self.assertIn(entry.__class__, (Mailbox, Group))
        for mailbox in mailboxes_of(entries):
            if mailbox.address is not None:
                self.assertTrue(is_body(mailbox.address[0]) and is_atom(mailbox.address[1]))
        again = body_of(people_pieces(entries), width=50)
        self.assertEqual(read_people(again), (entries, ()), body)

    def test_fact_ten(self):
        for body in sample_bodies():
            self.check(body)

    def test_clean_bodies(self):
        for body in ("a@b", "Bob <a@b> (c), g: x y <>, \"q\"@r; (d)", "=?latin?s?6Q?= <a@b>", "", "(c)", ":;"):
            self.assertEqual(read_people(body)[1], ())
            self.check(body)


if __name__ == "__main__":
    unittest.main()
