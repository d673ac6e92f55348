"""headerfold.people: the classes, the tokens, and what is written; points [17], [18], [24], and the interface."""

import inspect
import types
import unittest

from headerfold import people
from headerfold.errors import BadAddress, BadBody, BadComment, BadEntry, BadText
from headerfold.marks import MARKS
from headerfold.people import Group, Mailbox, mailboxes_of, people_pieces, read_people, tokens_of
from headerfold.texts import Text
from tests.support import Agreeable, check_error, wrong_objects

BOB = Mailbox(Text("Bob"), ("bob", "x.org"))
JO = Mailbox(Text(), None, ("c",))
TEAM = Group(Text("Team"), (BOB, JO), ("d",))
NO_BODIES = wrong_objects() + [(), 0, Text("a"), "\n", "a\nb", "\t", "\xe9", "a\x7f", chr(37)]
NO_TEXTS = wrong_objects() + ["", "ab", (), (97,), 0, 1, BOB]
NO_TUPLES = wrong_objects() + ["", "ab", 1, Text("a"), BOB, TEAM]
# None is an address.
NO_ADDRESSES = [thing for thing in NO_TUPLES if thing is not None] + [
    (), ("a",), ("a", "b", "c"), ["a", "b"], ("a", ""), ("a", "b c"), ("a", "b@c"), ("a", "b,"), ("a", "(b)"),
    ("a", "\"b\""), ("a", "b;"), ("a", "b:"), ("a", "<b>"), ("a", "\xe9"), ("a", "b\n"), ("\n", "b"), ("\xe9", "b"),
    (chr(37), "b"), (None, "b"), ("a", None), (b"a", "b"), (1, "b"), (Text("a"), "b"), ("a", Text("b")),
    (Agreeable(), "b"), ("a", Agreeable())]


class Interface(unittest.TestCase):
    def test_names_and_parameters(self):
        expected = {"tokens_of": ["body"], "read_people": ["body"], "people_pieces": ["entries"],
                    "mailboxes_of": ["entries"], "Mailbox": ["label", "address", "comments"],
                    "Group": ["label", "members", "comments"]}
        for name, parameters in expected.items():
            thing = getattr(people, name)
            self.assertEqual(thing.__module__, "headerfold.people")
            self.assertEqual(list(inspect.signature(thing).parameters), parameters)
        for function in (tokens_of, mailboxes_of):
            self.assertTrue(inspect.isgeneratorfunction(function))

    def test_what_the_classes_define_themselves(self):
        for made, properties, methods in (
                (Mailbox, ["label", "address", "comments"], ["__eq__", "__init__"]),
                (Group, ["label", "members", "comments"], ["__eq__", "__init__", "__len__"])):
            for name in properties:
                self.assertIsInstance(vars(made)[name], property)
            for name in methods:
                self.assertIsInstance(vars(made)[name], types.FunctionType)

    def test_by_name(self):
        self.assertEqual(list(tokens_of(body="a")), [(0, "atom", "a")])
        self.assertEqual(read_people(body=""), ((), ()))
        self.assertEqual(people_pieces(entries=(JO,)), ("<>", "(c)"))
        self.assertEqual(list(mailboxes_of(entries=(JO,))), [JO])
        self.assertEqual(Mailbox(comments=("c",), address=None, label=Text()), JO)
        self.assertEqual(Group(comments=("d",), members=(BOB, JO), label=Text("Team")), TEAM)

    def test_examples(self):
        entries, defects = read_people('"Bob B." <bob@x.org> (home), Team : a@b, Jo <>;')
        self.assertEqual(
            (entries[0] == Mailbox(Text("Bob B."), ("bob", "x.org"), ("home",)), len(entries[1]), defects),
            (True, 2, ()))
        entries, defects = read_people("a b@c, , <d@e")
        self.assertEqual(
            ([str(one.label) for one in entries], [one.address for one in entries], defects),
            (["a", ""], [("b", "c"), ("d", "e")], ((0, "address"), (7, "empty"), (9, "angle"))))


class Mailboxes(unittest.TestCase):
    def test_properties(self):
        label, address, comments = Text("a"), ("b", "c"), ("d", "", " e ")
        mailbox = Mailbox(label, address, comments)
        self.assertEqual((mailbox.label, mailbox.address, mailbox.comments), (label, address, comments))
        mailbox = Mailbox(label, None)
        self.assertEqual((mailbox.label, mailbox.address, mailbox.comments), (label, None, ()))

    def test_properties_are_not_assigned(self):
        for name in ("label", "address", "comments"):
            with self.assertRaises(AttributeError):
                setattr(BOB, name, None)

    def test_locals_and_domains(self):
        for local in ("", " ", "a b", "\"", "a@b", MARKS):
            for domain in ("b", "b.c", "\\", "=?x?=", "a'b"):
                self.assertEqual(Mailbox(Text(), (local, domain)).address, (local, domain))

    def test_equality(self):
        self.assertEqual(Mailbox(Text("a"), ("b", "c"), ("d",)), Mailbox(Text("a"), ("b", "c"), ("d",)))
        self.assertIs(Mailbox(Text("a"), None) == Mailbox(Text("a"), None, ()), True)
        different = [Mailbox(Text("a"), ("b", "c"), ("d",)), Mailbox(Text("A"), ("b", "c"), ("d",)),
                     Mailbox(Text("a"), ("B", "c"), ("d",)), Mailbox(Text("a"), ("b", "C"), ("d",)),
                     Mailbox(Text("a"), None, ("d",)), Mailbox(Text("a"), ("b", "c"), ()),
                     Mailbox(Text("a"), ("b", "c"), ("d", "d")), Mailbox(Text("a"), ("b", "c"), ("D",))]
        for place, one in enumerate(different):
            for other_place, other in enumerate(different):
                self.assertIs(one == other, place == other_place)
                self.assertIs(one != other, place != other_place)

    def test_other_objects_are_not_equal(self):
        for thing in wrong_objects() + ["", "Bob", (), (Text("Bob"), ("bob", "x.org"), ()), Text("Bob"), TEAM,
                                        Group(Text("Bob"), ())]:
            self.assertIs(BOB.__eq__(thing), False)

    def test_wrong_label(self):
        for label in NO_TEXTS:
            check_error(self, BadText, "given", label, Mailbox, label, None)
            check_error(self, BadText, "given", label, Mailbox, label, 1, 1)

    def test_wrong_address(self):
        for address in NO_ADDRESSES:
            check_error(self, BadAddress, "given", address, Mailbox, Text(), address)
            check_error(self, BadAddress, "given", address, Mailbox, Text(), address, None)

    def test_no_tuple_of_comments(self):
        for comments in NO_TUPLES:
            check_error(self, BadComment, "place", None, Mailbox, Text(), None, comments)
            check_error(self, BadComment, "place", None, Group, Text(), (), comments)

    def test_first_comment_that_is_no_body(self):
        for wrong in NO_BODIES:
            for address in (None, ("a", "b")):
                check_error(self, BadComment, "place", 0, Mailbox, Text(), address, (wrong,))
                check_error(self, BadComment, "place", 1, Mailbox, Text(), address, ("", wrong, wrong))
            check_error(self, BadComment, "place", 2, Group, Text(), (BOB,), ("a", "b", wrong, "c"))


class Groups(unittest.TestCase):
    def test_properties(self):
        self.assertEqual((TEAM.label, TEAM.members, TEAM.comments), (Text("Team"), (BOB, JO), ("d",)))
        self.assertEqual(Group(Text(), ()).comments, ())
        for name in ("label", "members", "comments"):
            with self.assertRaises(AttributeError):
                setattr(TEAM, name, None)

    def test_length(self):
        self.assertEqual((len(TEAM), len(Group(Text("a"), ())), len(Group(Text(), (BOB,) * 7, ("c",)))), (2, 0, 7))

    def test_equality(self):
        different = [TEAM, Group(Text("team"), (BOB, JO), ("d",)), Group(Text("Team"), (JO, BOB), ("d",)),
                     Group(Text("Team"), (BOB,), ("d",)), Group(Text("Team"), (), ("d",)),
                     Group(Text("Team"), (BOB, JO)), Group(Text("Team"), (BOB, JO), ("D",))]
        for place, one in enumerate(different):
            for other_place, other in enumerate(different):
                self.assertIs(one == other, place == other_place)
        self.assertIs(TEAM == Group(Text("Team"), (Mailbox(BOB.label, BOB.address), JO), ("d",)), True)

    def test_other_objects_are_not_equal(self):
        for thing in wrong_objects() + ["", (), (BOB, JO), BOB, Mailbox(Text("Team"), None, ("d",))]:
            self.assertIs(TEAM.__eq__(thing), False)

    def test_wrong_label(self):
        for label in NO_TEXTS:
            check_error(self, BadText, "given", label, Group, label, ())
            check_error(self, BadText, "given", label, Group, label, None, None)

    def test_no_tuple_of_members(self):
        for members in NO_TUPLES:
            check_error(self, BadEntry, "place", None, Group, Text(), members)
            check_error(self, BadEntry, "place", None, Group, Text(), members, None)

    def test_first_member_that_is_no_mailbox(self):
        for wrong in wrong_objects() + ["", "a@b", (), ("a", "b"), TEAM, Group(Text(), ()), Text("a")]:
            check_error(self, BadEntry, "place", 0, Group, Text(), (wrong,))
            check_error(self, BadEntry, "place", 2, Group, Text(), (BOB, JO, wrong, wrong), None)


class Tokens(unittest.TestCase):
    def check(self, body, *tokens):
        found = list(tokens_of(body))
        self.assertEqual(found, list(tokens))
        self.assertTrue(all(one.__class__ is tuple for one in found))

    def test_nothing(self):
        self.check("")
        self.check("    ")

    def test_atoms(self):
        self.check("ab", (0, "atom", "ab"))
        self.check("  ab  c ", (2, "atom", "ab"), (6, "atom", "c"))
        self.check("=?latin?h?a?=", (0, "atom", "=?latin?h?a?="))
        free = "".join(mark for mark in MARKS if mark not in " ()<>,;:@\"")
        self.check(free, (0, "atom", free))
        self.check("a\\ b\\", (0, "atom", "a\\"), (3, "atom", "b\\"))

    def test_marks(self):
        self.check("<>,;:@", *((place, "mark", mark) for place, mark in enumerate("<>,;:@")))
        self.check("a@b,<", (0, "atom", "a"), (1, "mark", "@"), (2, "atom", "b"), (3, "mark", ","), (4, "mark", "<"))

    def test_quoted(self):
        self.check("\"a b\"", (0, "quoted", "a b"))
        self.check("\"\"", (0, "quoted", ""))
        self.check("\"\"\"\"", (0, "quoted", ""), (2, "quoted", ""))
        self.check("a\"b\"c", (0, "atom", "a"), (1, "quoted", "b"), (4, "atom", "c"))
        self.check("\"(<>,;:@)\"", (0, "quoted", "(<>,;:@)"))
        self.check("\"a\\\"b\\\\\" c", (0, "quoted", "a\"b\\"), (9, "atom", "c"))
        self.check("\"\\a\\ \\(\"", (0, "quoted", "a ("))

    def test_quoted_without_an_end(self):
        self.check("\"", (0, "quoted", ""))
        self.check("a \"b, c  ", (0, "atom", "a"), (2, "quoted", "b, c  "))
        self.check("\"a\\\"", (0, "quoted", "a\""))
        self.check("\"a\\", (0, "quoted", "a\\"))
        self.check("\"a\\\\", (0, "quoted", "a\\"))
        self.check("\"a\\\\\\", (0, "quoted", "a\\\\"))

    def test_comments(self):
        self.check("(a b)", (0, "comment", "a b"))
        self.check("()", (0, "comment", ""))
        self.check("( a )", (0, "comment", " a "))
        self.check("a(b)c", (0, "atom", "a"), (1, "comment", "b"), (4, "atom", "c"))
        self.check("(a\"b)c", (0, "comment", "a\"b"), (5, "atom", "c"))
        self.check("(<>,;:@)", (0, "comment", "<>,;:@"))
        self.check("(a\\)b\\(c\\\\) d", (0, "comment", "a)b(c\\"), (12, "atom", "d"))

    def test_nested_comments(self):
        self.check("(a(b)c)d", (0, "comment", "a(b)c"), (7, "atom", "d"))
        self.check("(((a)))", (0, "comment", "((a))"))
        self.check("(()())()", (0, "comment", "()()"), (6, "comment", ""))
        self.check("(a\\(b)c", (0, "comment", "a(b"), (6, "atom", "c"))
        self.check("(a(b\\)c)d)e", (0, "comment", "a(b)c)d"), (10, "atom", "e"))

    def test_comments_without_an_end(self):
        self.check("(", (0, "comment", ""))
        self.check("a (b, c ", (0, "atom", "a"), (2, "comment", "b, c "))
        self.check("((a)", (0, "comment", "(a)"))
        self.check("(a\\)", (0, "comment", "a)"))
        self.check("(a\\", (0, "comment", "a\\"))
        self.check("(" * 3000, (0, "comment", "(" * 2999))

    def test_closing_parentheses_alone(self):
        self.check(")")
        self.check("a)b", (0, "atom", "a"), (2, "atom", "b"))
        self.check("(a))b", (0, "comment", "a"), (4, "atom", "b"))
        self.check("\")\" )", (0, "quoted", ")"))

    def test_no_body(self):
        for body in NO_BODIES:
            check_error(self, BadBody, "given", body, lambda body: next(tokens_of(body)), body)
            waiting = tokens_of(body)
            with self.assertRaises(BadBody):
                next(waiting)
            check_error(self, BadBody, "given", body, read_people, body)


class Writing(unittest.TestCase):
    def check(self, entries, *pieces):
        found = people_pieces(entries)
        self.assertIs(found.__class__, tuple)
        self.assertEqual([one.__class__ for one in found], [one.__class__ for one in pieces])
        self.assertEqual(found, pieces)

    def check_label(self, label, *pieces):
        """The pieces of a name, of a mailbox and of a group."""
        self.check((Mailbox(label, ("a", "b")),), *pieces, "<a@b>")
        self.check((Mailbox(label, None),), *pieces, "<>")
        self.check((Group(label, ()),), *pieces, ":", ";")

    def test_nothing(self):
        self.check(())

    def test_names_of_atoms(self):
        self.check_label(Text("Bob"), "Bob")
        self.check_label(Text("Bob B. Bee"), "Bob", "B.", "Bee")
        self.check_label(Text("=?= {233} \\"), "=?=", "{233}", "\\")

    def test_quoted_names(self):
        self.check_label(Text("Bee, Bob"), "\"Bee, Bob\"")
        self.check_label(Text("a  b"), "\"a  b\"")
        self.check_label(Text(" "), "\" \"")
        self.check_label(Text("a "), "\"a \"")
        self.check_label(Text(" a"), "\" a\"")
        self.check_label(Text("\"a\" \\"), "\"\\\"a\\\" \\\\\"")
        self.check_label(Text("\""), "\"\\\"\"")
        self.check_label(Text("=?x?="), "\"=?x?=\"")
        self.check_label(Text("a =?latin?h?b?="), "\"a =?latin?h?b?=\"")
        self.check_label(Text(MARKS), "\"" + MARKS.replace("\\", "\\\\").replace("\"", "\\\"") + "\"")
        for mark in "()<>,;:@":
            self.check_label(Text("a" + mark + " b"), "\"a" + mark + " b\"")

    def test_names_by_encoded_words(self):
        other = Text.of((233,))
        self.check_label(other, other)
        self.check_label(Text.joined((Text("a"), other, Text("b"))), "a", other, "b")
        self.check_label(Text.joined((Text("a,"), other, Text("b"))), Text.joined((Text("a,"), other)), "b")
        self.check_label(Text.joined((Text("=?x?="), Text("a"), other)), Text("=?x?="), "a", other)
        self.check_label(Text.joined((Text(), Text("a"), Text(), other)), Text(), "a", Text.joined((Text(), other)))
        self.check_label(Text.joined((other, other)), Text.joined((other, other)))
        self.check_label(Text.of((123, 50, 51, 51, 125, 32, 233)), "{233}", other)
        self.check_label(Text.joined((Text("x" * 300), other)), "x" * 300, other)

    def test_addresses(self):
        for local, piece in (("a", "a@b"), ("", "\"\"@b"), (" ", "\" \"@b"), ("a b", "\"a b\"@b"), ("a@b", "\"a@b\"@b"),
                             ("\"\\", "\"\\\"\\\\\"@b"), ("a.b", "a.b@b"), ("\\", "\\@b"), ("=?x?=", "=?x?=@b"),
                             ("(a)", "\"(a)\"@b")):
            self.check((Mailbox(Text(), (local, "b")),), piece)
            self.check((Mailbox(Text("n"), (local, "b")),), "n", "<" + piece + ">")
        self.check((Mailbox(Text(), None),), "<>")

    def test_comments(self):
        self.check((Mailbox(Text(), ("a", "b"), ("c", "", " d e ")),), "a@b", "(c)", "()", "( d e )")
        self.check((Mailbox(Text("n"), None, ("a(b)\\\"",)),), "n", "<>", "(a\\(b\\)\\\\\")")
        escaped = MARKS.replace("\\", "\\\\").replace("(", "\\(").replace(")", "\\)")
        self.check((Mailbox(Text(), None, (MARKS,)),), "<>", "(" + escaped + ")")
        self.check((Group(Text("g"), (), ("c", "(d")),), "g", ":", ";", "(c)", "(\\(d)")

    def test_groups(self):
        self.check((Group(Text(), ()),), ":", ";")
        self.check((Group(Text("g"), (BOB,)),), "g", ":", "Bob", "<bob@x.org>", ";")
        self.check((Group(Text("g h"), (BOB, JO, BOB)),),
                   "g", "h", ":", "Bob", "<bob@x.org>,", "<>", "(c),", "Bob", "<bob@x.org>", ";")

    def test_commas(self):
        self.check((BOB, BOB), "Bob", "<bob@x.org>,", "Bob", "<bob@x.org>")
        self.check((JO, JO, JO), "<>", "(c),", "<>", "(c),", "<>", "(c)")
        self.check((Group(Text(), ()), Group(Text(), (JO,), ("c",)), JO),
                   ":", ";,", ":", "<>", "(c)", ";", "(c),", "<>", "(c)")
        self.check((TEAM, BOB), "Team", ":", "Bob", "<bob@x.org>,", "<>", "(c)", ";", "(d),", "Bob", "<bob@x.org>")

    def test_wrong_entries(self):
        for call in (people_pieces, lambda entries: next(mailboxes_of(entries))):
            for entries in NO_TUPLES:
                check_error(self, BadEntry, "place", None, call, entries)
            for wrong in wrong_objects() + ["", "a@b", (), (BOB,), Text("a"), ("a", "b")]:
                check_error(self, BadEntry, "place", 0, call, (wrong,))
                check_error(self, BadEntry, "place", 2, call, (BOB, TEAM, wrong, wrong))

    def test_entries_are_not_changed(self):
        entries = (TEAM, BOB)
        people_pieces(entries)
        self.assertEqual(entries, (Group(Text("Team"), (BOB, JO), ("d",)), Mailbox(Text("Bob"), ("bob", "x.org"))))


class AllMailboxes(unittest.TestCase):
    def test_order(self):
        self.assertEqual(list(mailboxes_of(())), [])
        self.assertEqual(list(mailboxes_of((BOB, JO))), [BOB, JO])
        self.assertEqual(list(mailboxes_of((JO, TEAM, Group(Text(), ()), BOB))), [JO, BOB, JO, BOB])
        self.assertEqual(list(mailboxes_of((Group(Text(), ()),))), [])

    def test_nothing_is_raised_before_the_first_request(self):
        waiting = mailboxes_of(None)
        with self.assertRaises(BadEntry):
            next(waiting)
        waiting = mailboxes_of((BOB, None))
        with self.assertRaises(BadEntry):
            next(waiting)


if __name__ == "__main__":
    unittest.main()
