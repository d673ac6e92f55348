"""headerfold.plain: points [4], [6], [15] and [16], Fact 5, and the interface; [33] for plain headers."""

import inspect
import itertools
import unittest

from headerfold import plain
from headerfold.encoded import has_shape, reading_of
from headerfold.errors import BadBody, BadText, BadWidth
from headerfold.laying import body_of, lines_of
from headerfold.marks import MARKS
from headerfold.plain import plain_pieces, read_plain
from headerfold.texts import Text
from tests.support import check_error, wrong_objects

NO_BODIES = wrong_objects() + [(), 0, Text("a"), "\n", "a\nb", "\t", "\xe9", "a\x7f", chr(37)]
NO_TEXTS = wrong_objects() + ["", "ab", (), (97,), 0, 1]
NO_WIDTHS = wrong_objects() + ["78", "", (), (78,), 0, 1, 49, 201, -78, 10 ** 399, Text("a")]
WIDTHS = (50, 51, 60, 61, 62, 77, 78, 79, 120, 199, 200)
A = "=?latin?h?a?="
B = "=?latin?h?_b?="
EMPTY = "=?latin?h??="
WRONG = "=?latin?x?a?="
LONG = "=?latin?h?" + "a" * 49 + "?="


def read(body):
    """What is read, as a string and defects."""
    text, defects = read_plain(body)
    return str(text), defects


def words_made_of(letters, longest):
    for length in range(longest + 1):
        for word in itertools.product(letters, repeat=length):
            yield "".join(word)


def sample_texts():
    """Texts of all kinds: short ones, all rows of some parts, and long ones."""
    yield Text()
    yield Text(MARKS)
    for codes in itertools.product((32, 97, 233, 8364), repeat=4):
        yield Text.of(codes)
    parts = [Text(), Text("a"), Text("=?x?="), Text.of((233,)), Text("b" * 49), Text("c" * 50)]
    for three in itertools.product(parts, repeat=3):
        yield Text.joined(three)
    others = [Text(A), Text("=??="), Text("d" * 77), Text("e" * 78), Text.of((8364,) * 30)]
    for two in itertools.product(parts + others, others):
        yield Text.joined(two)
    yield Text("f" * 2000)
    yield Text(" " * 500)
    yield Text("g " * 500)
    yield Text.of(tuple(range(160, 1160)))
    yield Text.of((32, 233, 32, 32, 65535) * 100)


class Interface(unittest.TestCase):
    def test_names_and_parameters(self):
        for name, parameters in {"read_plain": ["body"], "plain_pieces": ["text", "width"]}.items():
            function = getattr(plain, name)
            self.assertEqual(function.__module__, "headerfold.plain")
            self.assertEqual(list(inspect.signature(function).parameters), parameters)
        width = inspect.signature(plain_pieces).parameters["width"]
        self.assertEqual((width.kind, width.default), (inspect.Parameter.KEYWORD_ONLY, 78))
        with self.assertRaises(TypeError):
            plain_pieces(Text("a"), 78)

    def test_by_name(self):
        self.assertEqual(read_plain(body="a"), (Text("a"), ()))
        self.assertEqual(plain_pieces(width=50, text=Text("a")), ("a",))

    def test_example(self):
        text, defects = read_plain("to =?latin?h?caf=E9?=  =?latin?h?_bar?= =?x?=")
        self.assertEqual((str(text), defects, plain_pieces(Text("a  b")) == ("a", Text(""), "b")),
                         ("to caf{233} bar =?x?=", ((40, "parts"),), True))


class Reading(unittest.TestCase):
    def test_kinds_of_the_answer(self):
        for body in ("", " ", "a", A, WRONG):
            answer = read_plain(body)
            self.assertEqual([one.__class__ for one in answer], [Text, tuple])

    def test_words_that_are_not_encoded(self):
        for body in ("", "a", "a b", "a  b   c", "(a) \"b\" <c>", "a=?b?=", "=?=", MARKS[1:]):
            self.assertEqual(read_plain(body), (Text(body), ()))

    def test_gaps_at_the_ends(self):
        for body, text in ((" ", ""), ("     ", ""), (" a", "a"), ("a ", "a"), ("   a  b    ", "a  b"),
                           ("  " + A + "   ", "a"), (" " + EMPTY + " ", "")):
            self.assertEqual(read(body), (text, ()))

    def test_gaps_between_right_words_give_nothing(self):
        for body, text in ((A + " " + A, "aa"), (A + "     " + A, "aa"), (A + " " + B + "  " + A, "a ba"),
                           (A + " " + EMPTY + " " + A, "aa"), (EMPTY + " " + EMPTY, "")):
            self.assertEqual(read(body), (text, ()))

    def test_other_gaps_give_their_spaces(self):
        for body, text in (
                ("x " + A, "x a"), (A + " x", "a x"), ("x   " + A + "  y", "x   a  y"), (A + " x " + A, "a x a"),
                (A + "  " + A + "   x    " + A, "aa   x    a"), ("x " + EMPTY + " y", "x  y"), ("x " + B, "x  b")):
            self.assertEqual(read(body), (text, ()))

    def test_gaps_between_right_and_wrong_words(self):
        self.assertEqual(read(A + "  " + WRONG + "   " + A), ("a  " + WRONG + "   a", ((15, "coding"),)))
        self.assertEqual(read(WRONG + "  " + WRONG), (WRONG + "  " + WRONG, ((0, "coding"), (15, "coding"))))
        self.assertEqual(read(A + " " + WRONG), ("a " + WRONG, ((14, "coding"),)))

    def test_defects_of_words(self):
        for word, text, words in (
                ("=?x?=", None, ["parts"]), ("=?x?h?a?=", None, ["charset"]), ("=?wide?x?a?=", None, ["coding"]),
                ("=?wide?h?-?=", None, ["payload"]), ("=?wide?h?a?=", "?", ["octets"]), (LONG, "a" * 49, ["long"]),
                ("=?wide?h?" + "=00a" * 8 + "=00=00?=", "a" * 8 + "?", ["octets"]),
                ("=?wide?h?" + "=00a" * 13 + "b?=", "a" * 13 + "?", ["long", "octets"])):
            self.assertEqual(read(word), (text or word, tuple((0, one) for one in words)))
            self.assertEqual(read("   " + word + " "), (text or word, tuple((3, one) for one in words)))
            self.assertEqual(read("ab  " + word + " cd"),
                             ("ab  " + (text or word) + " cd", tuple((4, one) for one in words)))

    def test_words_of_sixty_and_sixty_one_characters(self):
        self.assertEqual(read("=?latin?h?" + "a" * 48 + "?="), ("a" * 48, ()))
        self.assertEqual(read("=?latin?h?" + "a" * 49 + "?="), ("a" * 49, ((0, "long"),)))

    def test_words_of_fewer_than_four_characters(self):
        for body in ("=?=", "=?", "?=", "=?= =?=", A + " =?= " + A):
            self.assertEqual(read(body), (body.replace(A, "a"), ()))

    def test_right_words_with_defects_are_right(self):
        self.assertEqual(read(LONG + " " + A), ("a" * 50, ((0, "long"),)))
        self.assertEqual(read(A + "  =?wide?h?a?=  " + A), ("a?a", ((15, "octets"),)))

    def test_defects_are_in_their_order(self):
        body = "=?x?= =?wide?h?" + "=00a" * 13 + "b?=  =?x?="
        text, defects = read_plain(body)
        self.assertEqual(defects, ((0, "parts"), (6, "long"), (6, "octets"), (len(body) - 5, "parts")))

    def test_shape_is_a_matter_of_whole_words(self):
        for body in ("(" + A + ")", "x" + A, A + ",", "\"" + A + "\"", A + A):
            self.assertEqual(read_plain(body)[0], Text(body))
        self.assertEqual(read_plain(A + A)[1], ((0, "parts"),))
        self.assertEqual(read_plain("(" + A + ")")[1], ())


class Writing(unittest.TestCase):
    def check(self, text, *pieces, width=78):
        found = plain_pieces(text, width=width)
        self.assertIs(found.__class__, tuple)
        self.assertEqual([one.__class__ for one in found], [one.__class__ for one in pieces])
        self.assertEqual(found, pieces)

    def test_empty_text(self):
        for width in WIDTHS:
            self.check(Text(), width=width)

    def test_literal_parts(self):
        self.check(Text("a"), "a")
        self.check(Text("a b c"), "a", "b", "c")
        self.check(Text("(a), \"b\" =?="), "(a),", "\"b\"", "=?=")

    def test_empty_parts(self):
        self.check(Text(" "), Text(" "))
        self.check(Text("  "), Text("  "))
        self.check(Text("a "), "a", Text())
        self.check(Text(" a"), Text(), "a")
        self.check(Text("a  b"), "a", Text(), "b")
        self.check(Text("a   b"), "a", Text(" "), "b")
        self.check(Text("  a  "), Text(" "), "a", Text(" "))

    def test_parts_of_the_shape(self):
        self.check(Text("=??="), Text("=??="))
        self.check(Text("a =?x?= b"), "a", Text("=?x?="), "b")
        self.check(Text(A), Text(A))
        self.check(Text("=?= =?"), "=?=", "=?")

    def test_parts_with_other_codes(self):
        caf = Text.of((99, 97, 102, 233))
        self.check(caf, caf)
        self.check(Text("a ") + caf + Text(" b"), "a", caf, "b")
        self.check(Text.of((8364,)), Text.of((8364,)))
        self.check(Text.of((160,)), Text.of((160,)))

    def test_braces_are_marks(self):
        self.check(Text("{233}"), "{233}")
        self.check(Text("{233} ") + Text.of((233,)), "{233}", Text.of((233,)))

    def test_neighbors_that_are_not_literal_are_one_stretch(self):
        other = Text.of((233,))
        self.check(Text.joined((other, other)), Text.joined((other, other)))
        self.check(Text.joined((Text("a"), other, Text("=?x?="), Text(), other, Text("b"), other)),
                   "a", Text.joined((other, Text("=?x?="), Text(), other)), "b", other)
        self.check(Text.joined((other, Text("a"), Text("b"), Text())), other, "a", "b", Text())

    def test_longest_literal_part(self):
        for width in WIDTHS:
            for many, is_literal in ((width - 2, True), (width - 1, True), (width, False), (width + 1, False)):
                part = Text("a" * many)
                self.check(part, str(part) if is_literal else part, width=width)
                self.check(Text("b ") + part + Text(" c"), "b", str(part) if is_literal else part, "c", width=width)

    def test_default_width(self):
        self.assertEqual(plain_pieces(Text("a" * 77)), ("a" * 77,))
        self.assertEqual(plain_pieces(Text("a" * 78)), (Text("a" * 78),))


class ThereAndBack(unittest.TestCase):
    def test_facts_five_and_nine(self):
        for text in sample_texts():
            for width in (50, 78):
                body = body_of(plain_pieces(text, width=width), width=width)
                found, defects = read_plain(body)
                self.assertEqual(found, text)
                self.assertEqual(defects, ())
                self.assertEqual(plain_pieces(found, width=63), plain_pieces(text, width=63))

    def test_at_every_width(self):
        text = Text("to " + "a" * 60 + "  " + "b" * 130) + Text.of((32, 233, 8364) * 30) + Text(" =?x?= c")
        for width in range(50, 201, 5):
            body = body_of(plain_pieces(text, width=width), width=width)
            self.assertEqual(read_plain(body), (text, ()))

    def test_fact_ten(self):
        bodies = list(words_made_of("=?a ", 5)) + [" ".join(some) for some in itertools.product(
            ("", "a", A, B, EMPTY, LONG, "=?wide?h?a?=", "=?x?="), repeat=3)]
        for body in bodies:
            text, defects = read_plain(body)
            self.assertEqual(defects, tuple(sorted(set(defects))))
            again = body_of(plain_pieces(text, width=50), width=50)
            self.assertEqual(read_plain(again), (text, ()))

    def test_fact_eleven(self):
        for text in sample_texts():
            for width in (50, 77):
                for line in lines_of("N" * 20, plain_pieces(text, width=width), width=width):
                    self.assertLessEqual(len(line), width)

    def test_stretches_are_never_neighbors(self):
        for text in sample_texts():
            pieces = plain_pieces(text, width=50)
            for one, other in zip(pieces, pieces[1:]):
                self.assertIn(str, (one.__class__, other.__class__))

    def test_literal_pieces_are_no_encoded_words(self):
        for text in sample_texts():
            for piece in plain_pieces(text):
                if piece.__class__ is str:
                    self.assertFalse(has_shape(piece))
                    self.assertEqual(reading_of(piece), (None, ()))


class Errors(unittest.TestCase):
    def test_no_body(self):
        for body in NO_BODIES:
            check_error(self, BadBody, "given", body, read_plain, body)
            check_error(self, BadBody, "given", body, read_plain, body=body)

    def test_no_text(self):
        for text in NO_TEXTS:
            check_error(self, BadText, "given", text, plain_pieces, text)
            check_error(self, BadText, "given", text, plain_pieces, text, width=None)

    def test_no_width(self):
        for width in NO_WIDTHS:
            check_error(self, BadWidth, "given", width, plain_pieces, Text("a"), width=width)
            check_error(self, BadWidth, "given", width, plain_pieces, Text(), width=width)


if __name__ == "__main__":
    unittest.main()
