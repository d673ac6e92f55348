"""headerfold.people: what is read; points [18] to [23], and the order of defects of [6]."""

import unittest

from headerfold.people import Group, Mailbox, read_people
from headerfold.texts import Text

A = "=?latin?h?a?="
B = "=?latin?h?_b?="
LONG = "=?latin?h?" + "a" * 49 + "?="


def plain(entry):
    """An entry as strings and tuples; a group has a list of members."""
    if entry.__class__ is Group:
        return (str(entry.label), [plain(member) for member in entry.members], *entry.comments)
    return (str(entry.label), "@".join(entry.address) if entry.address else None, *entry.comments)


class Case(unittest.TestCase):
    def check(self, body, entries, *defects):
        """The entries and the defects, each written as its position, a space and its word."""
        answer = read_people(body)
        self.assertEqual([one.__class__ for one in answer], [tuple, tuple])
        self.assertEqual([plain(entry) for entry in answer[0]], entries, body)
        self.assertEqual([str(position) + " " + word for position, word in answer[1]], list(defects), body)
        for position, word in answer[1]:
            self.assertEqual((position.__class__, word.__class__), (int, str))


class Mailboxes(Case):
    def test_addresses(self):
        self.check("a@b", [("", "a@b")])
        self.check("  a @  b ", [("", "a@b")])
        self.check("<a@b>", [("", "a@b")])
        self.check("< a @ b >", [("", "a@b")])
        self.check("\"a\"@b", [("", "a@b")])
        self.check("\"a b,<c>\"@d.e", [("", "a b,<c>@d.e")])
        self.check("\"\"@b", [("", "@b")])
        self.check("<\"a\\\"\"@b>", [("", "a\"@b")])
        self.check("=?latin?h?a?=@=?x?=", [("", A + "@=?x?=")])

    def test_address_is_a_pair_of_strings(self):
        (one,), _ = read_people("x <\"a\\@\"@b>")
        self.assertEqual(one, Mailbox(Text("x"), ("a@", "b")))
        self.assertIs(one.address.__class__, tuple)

    def test_names(self):
        self.check("Bob <a@b>", [("Bob", "a@b")])
        self.check("Bob  B.   Bee<a@b>", [("Bob B. Bee", "a@b")])
        self.check("\"Bob, B\" <a@b>", [("Bob, B", "a@b")])
        self.check("\"a\"\"b\" c\"d\" <e@f>", [("a b c d", "e@f")])
        self.check("\"a \" b <c@d>", [("a  b", "c@d")])
        self.check("\"\" <a@b>", [("", "a@b")])
        self.check("\"\" \"\" <a@b>", [(" ", "a@b")])
        self.check("\"\" a <a@b>", [(" a", "a@b")])
        self.check("a \"\" <a@b>", [("a ", "a@b")])

    def test_no_address(self):
        self.check("<>", [("", None)])
        self.check("< >", [("", None)])
        self.check("Jo <>", [("Jo", None)])
        self.check("Jo <(c)>", [("Jo", None, "c")])

    def test_without_an_angle(self):
        self.check("Bob Smith", [("Bob Smith", None)], "0 address")
        self.check("  Bob", [("Bob", None)], "2 address")
        self.check("\"Bob B\"", [("Bob B", None)], "0 address")
        self.check("a b@c d", [("a", "b@c")], "0 address")
        self.check("a b@c", [("a", "b@c")], "0 address")
        self.check("b@c d", [("", "b@c")], "0 address")
        self.check("a \"b\" c@d e", [("a b", "c@d")], "0 address")
        self.check("a@b@c", [("", "a@b")], "0 address")
        self.check("a@b c@d", [("", "a@b")], "0 address")
        self.check("x a@b@c", [("x", "a@b")], "0 address")

    def test_signs_without_words(self):
        self.check("@", [("", None)], "0 address")
        self.check("@@", [("", None)], "0 address")
        self.check("a@", [("a", None)], "0 address")
        self.check("@b", [("b", None)], "0 address")
        self.check("a@@b", [("a b", None)], "0 address")
        self.check("a@@b@c", [("a", "b@c")], "0 address")
        self.check("@a@b", [("", "a@b")], "0 address")
        self.check("a b@", [("a b", None)], "0 address")

    def test_domain_is_an_atom(self):
        self.check("a@\"b\"", [("a b", None)], "0 address")
        self.check("a@\"b\"@c", [("a", "b@c")], "0 address")
        self.check("\"a\"@\"b\"@c d", [("a", "b@c")], "0 address")
        self.check("<a@\"b\">", [("", None)], "1 address")

    def test_address_within_angles(self):
        self.check("x <a>", [("x", None)], "3 address")
        self.check("x <a b>", [("x", None)], "3 address")
        self.check("x <@>", [("x", None)], "3 address")
        self.check("x <a b@c d>", [("x", "b@c")], "3 address")
        self.check("x <a@b@c>", [("x", "a@b")], "3 address")
        self.check("x <@b>", [("x", None)], "3 address")
        self.check("x < a@ >", [("x", None)], "4 address")

    def test_angle(self):
        self.check("<", [("", None)], "0 angle")
        self.check("<a@b", [("", "a@b")], "0 angle")
        self.check("x <a@b y", [("x", "a@b")], "2 angle", "3 address")
        self.check("x <a", [("x", None)], "2 angle", "3 address")
        self.check("x <a@b, y <c@d", [("x", "a@b"), ("y", "c@d")], "2 angle", "10 angle")

    def test_marks_in_front_of_the_angle(self):
        self.check("a@b <c@d>", [("a b", "c@d")], "1 mark")
        self.check("> a > <c@d>", [("a", "c@d")], "0 mark", "4 mark")
        self.check("@ <c@d>", [("", "c@d")], "0 mark")
        self.check("a@>b<c@d>", [("a b", "c@d")], "1 mark", "2 mark")

    def test_further_angles(self):
        self.check("<<a@b>", [("", "a@b")], "1 mark")
        self.check("<a<@<b>", [("", "a@b")], "2 mark", "4 mark")
        self.check("<<>", [("", None)], "1 mark")
        self.check("<<", [("", None)], "0 angle", "1 mark")
        self.check("<<a>", [("", None)], "1 mark", "2 address")

    def test_extra_behind_the_angle(self):
        self.check("<a@b> x", [("", "a@b")], "6 extra")
        self.check("<a@b> x y z", [("", "a@b")], "6 extra")
        self.check("<a@b>>", [("", "a@b")], "5 extra")
        self.check("<a@b><c@d>", [("", "a@b")], "5 extra")
        self.check("<a@b>@ \"x\"", [("", "a@b")], "5 extra")
        self.check("<>x", [("", None)], "2 extra")
        self.check("<a@b> (c)", [("", "a@b", "c")])
        self.check("<a@b> (c) x", [("", "a@b", "c")], "10 extra")
        self.check("<a@b> =?x?=", [("", "a@b")], "6 extra")
        self.check("<a@b> x, <c@d> y", [("", "a@b"), ("", "c@d")], "6 extra", "15 extra")

    def test_closing_angles_alone(self):
        self.check(">", [], "0 mark")
        self.check(">>", [], "0 mark", "1 mark")
        self.check("a@b>", [("", "a@b")], "3 mark")
        self.check("a>@b", [("", "a@b")], "1 mark")
        self.check("a > b", [("a b", None)], "0 address", "2 mark")
        self.check("> (c)", [], "0 mark")
        # The entry has a token, so it is not an empty one.
        self.check(">, a@b", [("", "a@b")], "0 mark")
        self.check("a@b, > (c)", [("", "a@b")], "5 mark")

    def test_colons_and_semicolons_that_are_left_out(self):
        self.check(";", [], "0 mark")
        self.check("a@b;", [("", "a@b")], "3 mark")
        self.check("a;@b", [("", "a@b")], "1 mark")
        self.check("x ; y <a@b;> ; z", [("x y", "a@b")], "2 mark", "10 mark", "13 mark", "15 extra")
        self.check(";; (c)", [], "0 mark", "1 mark")

    def test_lone_closing_parentheses(self):
        self.check(")", [], "0 mark")
        self.check("a@b)", [("", "a@b")], "3 mark")
        self.check("a)@b", [("", "a@b")], "1 mark")
        self.check("(c)) a@b", [("", "a@b", "c")], "3 mark")
        self.check("a@b, )", [("", "a@b")], "5 mark", "6 empty")


class Comments(Case):
    def test_of_mailboxes(self):
        self.check("(c) a@b", [("", "a@b", "c")])
        self.check("a@b (c)", [("", "a@b", "c")])
        self.check("(1)a(2)@(3)b(4)", [("", "a@b", "1", "2", "3", "4")])
        self.check("x(1)y<(2)a@b(3)>(4)", [("x y", "a@b", "1", "2", "3", "4")])
        self.check("a@b (1), (2) c@d", [("", "a@b", "1"), ("", "c@d", "2")])
        self.check("a@b () ( ) (\\))", [("", "a@b", "", " ", ")")])
        self.check("Jo (1) <> (2)", [("Jo", None, "1", "2")])

    def test_of_groups(self):
        self.check("(1) g (2) : ; (3) (4)", [("g", [], "1", "2", "3", "4")])
        self.check("g(1):(2)a@b(3),c@d(4);(5)", [("g", [("", "a@b", "2", "3"), ("", "c@d", "4")], "1", "5")])
        self.check("g:; (1) x (2), a@b", [("g", [], "1", "2"), ("", "a@b")], "8 extra")
        self.check("g (1): a@b (2)", [("g", [("", "a@b", "2")], "1")], "5 group")

    def test_of_what_is_dropped(self):
        self.check("(c)", [])
        self.check("(c), a@b", [("", "a@b")], "3 empty")
        self.check("(c) ;, a@b", [("", "a@b")], "4 mark", "5 empty")
        self.check("g: (c);", [("g", [])])
        self.check("g (1): (c) ;(2)", [("g", [], "1", "2")])
        self.check("g: (c), a@b;", [("g", [("", "a@b")])], "6 empty")

    def test_without_an_end(self):
        self.check("(", [], "0 comment")
        self.check("a@b (c, d@e", [("", "a@b", "c, d@e")], "4 comment")
        self.check("a@b (c (d)", [("", "a@b", "c (d)")], "4 comment")
        self.check("a@b (c\\)", [("", "a@b", "c)")], "4 comment")
        self.check("a@b (c\\", [("", "a@b", "c\\")], "4 comment")
        self.check("(c, a@b", [], "0 comment")

    def test_nested(self):
        self.check("a@b (c (d) \"e) f", [("", "a@b", "c (d) \"e")], "0 address")
        self.check("a(b(c))@d", [("", "a@d", "b(c)")])


class Quoted(Case):
    def test_without_an_end(self):
        self.check("\"", [("", None)], "0 address", "0 quote")
        self.check("\"a, b", [("a, b", None)], "0 address", "0 quote")
        self.check("x \"a@b\\\"", [("x a@b\"", None)], "0 address", "2 quote")
        self.check("<a@b> \"x", [("", "a@b")], "6 extra", "6 quote")
        self.check("a@b, \"", [("", "a@b"), ("", None)], "5 address", "5 quote")
        self.check("x <\"a", [("x", None)], "2 angle", "3 address", "3 quote")
        self.check("\"a\\", [("a\\", None)], "0 address", "0 quote")

    def test_with_an_end(self):
        self.check("\"a\\\\\" <b@c>", [("a\\", "b@c")])
        self.check("\"a (b) \\c\" <d@e>", [("a (b) c", "d@e")])


class Lists(Case):
    def test_entries(self):
        self.check("", [])
        self.check("   ", [])
        self.check("a@b,c@d", [("", "a@b"), ("", "c@d")])
        self.check("a@b, x <c@d>, <>", [("", "a@b"), ("x", "c@d"), ("", None)])

    def test_empty_entries(self):
        self.check(",", [], "0 empty", "1 empty")
        self.check(" , ,", [], "1 empty", "3 empty", "4 empty")
        self.check("a@b,", [("", "a@b")], "4 empty")
        self.check("a@b,  ", [("", "a@b")], "6 empty")
        self.check(",a@b", [("", "a@b")], "0 empty")
        self.check("a@b,,c@d", [("", "a@b"), ("", "c@d")], "4 empty")
        self.check("a@b, (c) , d@e", [("", "a@b"), ("", "d@e")], "9 empty")
        self.check("a@b,;", [("", "a@b")], "4 mark", "5 empty")
        self.check("g:;,", [("g", [])], "4 empty")
        self.check(",g:;", [("g", [])], "0 empty")

    def test_commas_in_groups_are_no_commas_of_the_entries(self):
        self.check("g: a@b, c@d;", [("g", [("", "a@b"), ("", "c@d")])])
        self.check("g: a@b, c@d; , ", [("g", [("", "a@b"), ("", "c@d")])], "15 empty")


class Groups(Case):
    def test_ordinary(self):
        self.check("g:;", [("g", [])])
        self.check(":;", [("", [])])
        self.check("g : a@b ;", [("g", [("", "a@b")])])
        self.check("g h: x <a@b>, <>;", [("g h", [("x", "a@b"), ("", None)])])
        self.check("\"g: h\":;", [("g: h", [])])
        self.check("g:;, h:;", [("g", []), ("h", [])])
        self.check("a@b, g: c@d;, e@f", [("", "a@b"), ("g", [("", "c@d")]), ("", "e@f")])

    def test_not_ended(self):
        self.check(":", [("", [])], "0 group")
        self.check("g:", [("g", [])], "1 group")
        self.check("g: a@b", [("g", [("", "a@b")])], "1 group")
        self.check("g: a@b, c@d", [("g", [("", "a@b"), ("", "c@d")])], "1 group")
        self.check("g: a@b,", [("g", [("", "a@b")])], "1 group", "7 empty")
        self.check("g:,", [("g", [])], "1 group", "2 empty", "3 empty")
        self.check("a@b, g: (c)", [("", "a@b"), ("g", [])], "6 group")

    def test_marks_in_the_name(self):
        self.check("<a:b@c>", [("a", [("", "b@c")])], "0 mark", "2 group", "6 mark")
        self.check("a@b > c: ;", [("a b c", [])], "1 mark", "4 mark")
        self.check("a <b@c> : ;", [("a b c", [])], "2 mark", "4 mark", "6 mark")
        self.check("<:;", [("", [])], "0 mark")
        self.check("a;b:;", [("a b", [])], "1 mark")

    def test_further_colons(self):
        self.check("g:a:b@c;", [("g", [("a", "b@c")])], "2 address", "3 mark")
        self.check("g::;", [("g", [])], "2 mark")
        self.check("g::,a@b;", [("g", [("", "a@b")])], "2 mark", "3 empty")
        self.check("g: a:@b;", [("g", [("", "a@b")])], "4 mark")

    def test_empty_members(self):
        self.check("g:,;", [("g", [])], "2 empty", "3 empty")
        self.check("g: a@b,;", [("g", [("", "a@b")])], "7 empty")
        self.check("g:,a@b;", [("g", [("", "a@b")])], "2 empty")
        self.check("g: a@b, (c) ;", [("g", [("", "a@b")])], "12 empty")
        self.check("g: > ;", [("g", [])], "3 mark")
        self.check("g: >, a@b;", [("g", [("", "a@b")])], "3 mark")

    def test_extra(self):
        self.check("g: a@b; x;y", [("g", [("", "a@b")])], "8 extra")
        self.check("g:;;", [("g", [])], "3 extra")
        self.check("g:;:", [("g", [])], "3 extra")
        self.check("g:; x: a@b;, c@d", [("g", []), ("", "c@d")], "4 extra")
        self.check("g:; x: a@b, c@d", [("g", []), ("", "c@d")], "4 extra")
        self.check("g:; <a@b>, h:;<", [("g", []), ("h", [])], "4 extra", "14 extra")
        self.check("g:;x, h:; \"y\"", [("g", []), ("h", [])], "3 extra", "10 extra")
        self.check("g:; )x", [("g", [])], "4 mark", "5 extra")
        self.check("g:; =?x?=", [("g", [])], "4 extra")
        self.check("g:;\"x", [("g", [])], "3 extra", "3 quote")
        self.check("g:;,x:;", [("g", []), ("x", [])])

    def test_a_group_begins_again_behind_a_comma(self):
        self.check("g:;, h:a@b;", [("g", []), ("h", [("", "a@b")])])
        self.check("a@b;, h:a@b;", [("", "a@b"), ("h", [("", "a@b")])], "3 mark")
        self.check("g:;;, h:a@b,c@d;", [("g", []), ("h", [("", "a@b"), ("", "c@d")])], "3 extra")


class Phrases(Case):
    def check_phrase(self, phrase, label, *defects):
        """The phrase of a mailbox, behind another one, and of a group."""
        self.check(phrase + " <x@y>", [(label, "x@y")], *defects)
        self.check(phrase + ":;", [(label, [])], *defects)
        self.check("  " + phrase + "<x@y>", [(label, "x@y")], *[
            str(int(one.split()[0]) + 2) + " " + one.split()[1] for one in defects])

    def test_encoded_words(self):
        self.check_phrase(A, "a")
        self.check_phrase(A + " " + B, "a b")
        self.check_phrase(A + "   " + A, "aa")
        self.check_phrase("x " + A + " y", "x a y")
        self.check_phrase(A + " x " + A, "a x a")
        self.check_phrase("\"x\" " + A, "x a")
        self.check_phrase(A + "\"x\"" + A, "a x a")
        self.check_phrase("=?latin?h??=", "")
        self.check_phrase("x =?latin?h??= y", "x  y")
        self.check_phrase("=?steps?s?--8D?=", "{65535}")

    def test_comments_do_not_part_neighbors(self):
        self.check(A + " (c) " + A + " <x@y>", [("aa", "x@y", "c")])
        self.check(A + " @ " + A + " <x@y>", [("aa", "x@y")], "14 mark")

    def test_quoted_encoded_words(self):
        self.check_phrase("\"" + A + "\"", A)
        self.check_phrase("\"=?x?=\" " + A, "=?x?= a")
        self.check_phrase(A + " \"" + A + "\"", "a " + A)

    def test_defects(self):
        self.check_phrase("=?x?=", "=?x?=", "0 parts")
        self.check_phrase("=?x?h?a?=", "=?x?h?a?=", "0 charset")
        self.check_phrase("=?latin?x?a?=", "=?latin?x?a?=", "0 coding")
        self.check_phrase("=?latin?h?-?=", "=?latin?h?-?=", "0 payload")
        self.check_phrase("=?wide?h?a?=", "?", "0 octets")
        self.check_phrase(LONG, "a" * 49, "0 long")
        self.check_phrase("=?wide?h?" + "=00a" * 13 + "b?=", "a" * 13 + "?", "0 long", "0 octets")
        self.check_phrase("a =?x?= =?y?=", "a =?x?= =?y?=", "2 parts", "8 parts")
        self.check_phrase(A + " =?x?= " + A, "a =?x?= a", "14 parts")
        self.check_phrase("=?=", "=?=")

    def test_words_of_sixty_and_sixty_one_characters(self):
        self.check_phrase("=?latin?h?" + "a" * 48 + "?=", "a" * 48)
        self.check_phrase("=?latin?h?" + "a" * 49 + "?=", "a" * 49, "0 long")

    def test_without_an_angle(self):
        self.check(A + " a@b", [("a", "a@b")], "0 address")
        self.check(A, [("a", None)], "0 address")
        self.check("=?x?= a@b", [("=?x?=", "a@b")], "0 address", "0 parts")
        self.check("=?x?=", [("=?x?=", None)], "0 address", "0 parts")
        self.check(A + " @ " + A, [("", A + "@" + A)])

    def test_words_that_are_in_no_phrase(self):
        self.check("a@b =?x?=", [("", "a@b")], "0 address")
        self.check("=?x?=@=?y?=", [("", "=?x?=@=?y?=")])
        self.check("<=?x?=>", [("", None)], "1 address")
        self.check("<a@b> =?x?=", [("", "a@b")], "6 extra")
        self.check("(=?x?=) a@b", [("", "a@b", "=?x?=")])
        self.check("\"=?x?=\" <a@b>", [("=?x?=", "a@b")])


class OrderOfDefects(Case):
    def test_by_position_then_by_word(self):
        self.check("=?wide?h?" + "=00a" * 13 + "b?=", [("a" * 13 + "?", None)], "0 address", "0 long", "0 octets")
        self.check("a <b) , (c", [("a", None)], "2 angle", "3 address", "4 mark", "8 comment", "10 empty")
        self.check("g: \"", [("g", [("", None)])], "1 group", "3 address", "3 quote")
        self.check("g:a@b>,", [("g", [("", "a@b")])], "1 group", "5 mark", "7 empty")
        self.check(") =?x?= <, >", [("=?x?=", None)], "0 mark", "2 parts", "8 angle", "11 mark")


if __name__ == "__main__":
    unittest.main()
