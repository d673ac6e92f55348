"""headerfold.laying: points [12], [13] and [14], Facts 3 and 4, and the interface."""

import inspect
import itertools
import unittest

from headerfold import laying
from headerfold.encoded import best_choice, reading_of, word_for
from headerfold.errors import BadLabel, BadPiece, BadWidth
from headerfold.laying import body_of, laid_out, lines_of
from headerfold.marks import unfolded
from headerfold.texts import Text
from tests.support import Agreeable, check_error, wrong_objects

NO_LABELS = wrong_objects() + ["", "1a", "-a", "a_b", "a b", "a:", "a" * 21, "a\n", (), ("X",), 7, Text("X")]
NO_TUPLES = wrong_objects() + ["", "ab", "a b", 1, Text("a")]
NO_PIECES = wrong_objects() + ["", " ", " a", "a ", "  ", "a\n", "\n", "a\nb", "\xe9", "a\t", chr(37), 7, (), ("a",)]
NO_WIDTHS = wrong_objects() + ["78", "", (), (78,), 0, 1, 49, 201, -78, 10 ** 399, Text("a")]
WIDTHS = (50, 51, 52, 59, 60, 61, 72, 73, 74, 78, 100, 199, 200)


def listed(name, pieces, **named):
    return list(lines_of(name, pieces, **named))


def straight_word(choice, text, room):
    """The longest word that fits, or None, and what is left of the text, or None for nothing."""
    for many in range(len(text), min(len(text), 1) - 1, -1):
        word = word_for(*choice, text.part(0, many))
        if len(word) <= room:
            return word, text.part(many, len(text)) if many < len(text) else None
    return None, text


def straight_lines(name, pieces, width):
    """The lines, with each number of codes tried for each word."""
    lines = [name + ":"]
    for piece in pieces:
        if isinstance(piece, str):
            if len(lines[-1]) + 1 + len(piece) > width:
                lines.append("")
            lines[-1] += " " + piece
            continue
        rest = piece
        while rest is not None:
            room = min(60, width - len(lines[-1]) - 1)
            word, rest = straight_word(best_choice(piece), rest, room)
            if word is None:
                lines.append("")
            else:
                lines[-1] += " " + word
    return lines


def sample_pieces():
    """Tuples of pieces of all kinds."""
    some = ["a", "b c", "x" * 30, "y" * 48, "z" * 60, "w" * 250, "=?x?=", Text(), Text("ab"), Text("c" * 80),
            Text.of((233,) * 50), Text.of((97, 8364) * 20), Text.of((65535,)), Text(" ")]
    yield ()
    for piece in some:
        yield (piece,)
    yield from itertools.product(some, repeat=2)
    for step in (1, 3, 5, 9, 11):
        yield tuple((some * step)[::step] * 2)


class Interface(unittest.TestCase):
    def test_names_and_parameters(self):
        expected = {"lines_of": ["name", "pieces", "width"], "laid_out": ["name", "pieces", "width"],
                    "body_of": ["pieces", "width"]}
        for name, parameters in expected.items():
            function = getattr(laying, name)
            self.assertEqual(function.__module__, "headerfold.laying")
            found = inspect.signature(function).parameters
            self.assertEqual(list(found), parameters)
            self.assertEqual(found["width"].kind, inspect.Parameter.KEYWORD_ONLY)
            self.assertEqual(found["width"].default, 78)
        self.assertTrue(inspect.isgeneratorfunction(lines_of))

    def test_by_name(self):
        self.assertEqual(listed(pieces=("a",), name="X"), ["X: a"])
        self.assertEqual(laid_out(width=50, pieces=("a",), name="X"), "X: a")
        self.assertEqual(body_of(width=50, pieces=("a",)), "a")

    def test_width_by_name_only(self):
        with self.assertRaises(TypeError):
            laid_out("X", (), 78)
        with self.assertRaises(TypeError):
            body_of((), 78)
        with self.assertRaises(TypeError):
            list(lines_of("X", (), 78))

    def test_example(self):
        self.assertEqual(laid_out("Subject", ("one", Text("two"), "a-rather-long-word", "end"), width=50),
                         "Subject: one =?latin?h?two?= a-rather-long-word\n end")


class Strings(unittest.TestCase):
    def test_nothing(self):
        self.assertEqual(listed("X", ()), ["X:"])
        self.assertEqual(laid_out("Content-Form", ()), "Content-Form:")
        self.assertEqual(body_of(()), "")

    def test_one_line(self):
        self.assertEqual(listed("To", ("a", "b c", "d")), ["To: a b c d"])
        self.assertEqual(body_of(("a", "b c", "d")), "a b c d")

    def test_string_that_ends_at_the_width(self):
        for width in WIDTHS:
            fitting = "a" * (width - 3)
            self.assertEqual(listed("X", (fitting,), width=width), ["X: " + fitting])
            self.assertEqual(listed("X", (fitting + "a",), width=width), ["X:", " " + fitting + "a"])
            fitting = "a" * (width - 5)
            self.assertEqual(listed("X", ("b", fitting), width=width), ["X: b " + fitting])
            self.assertEqual(listed("X", ("b", fitting + "a"), width=width), ["X: b", " " + fitting + "a"])

    def test_string_that_ends_at_the_width_of_a_later_line(self):
        for width in WIDTHS:
            for many, lines in ((3, [" {} b"]), (2, [" {}", " b"]), (1, [" {}", " b"])):
                first = "a" * (width - many)
                self.assertEqual(listed("Name", (first, "b"), width=width),
                                 ["Name:"] + [line.format(first) for line in lines])

    def test_string_longer_than_a_line(self):
        for long in ("a" * 78, "a" * 77, "a b " * 30 + "c", "a" * 5000):
            self.assertEqual(listed("X", ("b", long, "c")), ["X: b", " " + long, " c"])
            self.assertEqual(listed("X", (long,)), ["X:", " " + long])
            self.assertEqual(body_of(("b", long, "c")), "b " + long + " c")
            self.assertEqual(body_of((long, long)), long + " " + long)

    def test_spaces_within_a_string(self):
        self.assertEqual(listed("X", ("a" * 70, "b  c   d")), ["X: " + "a" * 70, " b  c   d"])
        self.assertEqual(body_of(("a" * 70, "b  c   d")), "a" * 70 + " b  c   d")

    def test_a_string_of_the_shape_is_a_string(self):
        self.assertEqual(listed("X", ("=?latin?h?" + "a" * 80 + "?=",)), ["X:", " =?latin?h?" + "a" * 80 + "?="])

    def test_default_width(self):
        self.assertEqual(listed("X", ("a" * 75,)), ["X: " + "a" * 75])
        self.assertEqual(listed("X", ("a" * 76,)), ["X:", " " + "a" * 76])
        self.assertEqual(laid_out("X", ("a" * 76,)), "X:\n " + "a" * 76)

    def test_width_of_body_of_counts_the_name(self):
        stretch = Text("a" * 40)
        self.assertEqual(body_of((stretch,), width=54), "=?latin?h?" + "a" * 39 + "?= =?latin?h?a?=")
        self.assertEqual(body_of((stretch,), width=55), "=?latin?h?" + "a" * 40 + "?=")
        self.assertEqual(body_of((stretch,)), "=?latin?h?" + "a" * 40 + "?=")


class Stretches(unittest.TestCase):
    def test_one_word(self):
        self.assertEqual(listed("X", (Text("ab"),)), ["X: =?latin?h?ab?="])
        self.assertEqual(listed("X", ("a", Text.of((233,)), "b")), ["X: a =?latin?s?6Q?= b"])
        self.assertEqual(listed("X", (Text.of((97, 256)),)), ["X: =?steps?s?YYAC?="])

    def test_empty_stretch(self):
        for width in WIDTHS:
            fitting = "a" * (width - 16)
            self.assertEqual(listed("X", (fitting, Text()), width=width), ["X: " + fitting + " =?latin?h??="])
            self.assertEqual(listed("X", (fitting + "a", Text()), width=width),
                             ["X: " + fitting + "a", " =?latin?h??="])
        self.assertEqual(listed("X", (Text(),)), ["X: =?latin?h??="])
        self.assertEqual(listed("X", (Text(), Text())), ["X: =?latin?h??= =?latin?h??="])

    def test_cut_at_the_width_and_at_sixty(self):
        self.assertEqual(listed("X", (Text("a" * 100),)), [
            "X: =?latin?h?" + "a" * 48 + "?= =?latin?h?aa?=", " =?latin?h?" + "a" * 48 + "?= =?latin?h?aa?="])
        self.assertEqual(listed("X", (Text("a" * 100),), width=50), [
            "X: =?latin?h?" + "a" * 35 + "?=", " =?latin?h?" + "a" * 37 + "?=", " =?latin?h?" + "a" * 28 + "?="])
        self.assertEqual(listed("X", (Text("a" * 100),), width=200), [
            "X: =?latin?h?" + "a" * 48 + "?= =?latin?h?" + "a" * 48 + "?= =?latin?h?aaaa?="])

    def test_stretch_that_begins_on_the_next_line(self):
        for width in WIDTHS:
            fitting = "a" * (width - 17)
            self.assertEqual(listed("X", (fitting, Text("b")), width=width), ["X: " + fitting + " =?latin?h?b?="])
            self.assertEqual(listed("X", (fitting + "a", Text("b")), width=width),
                             ["X: " + fitting + "a", " =?latin?h?b?="])
            self.assertEqual(listed("X", (fitting, Text("bc")), width=width),
                             ["X: " + fitting + " =?latin?h?b?=", " =?latin?h?c?="])

    def test_stretch_behind_a_line_that_is_too_long(self):
        for many in (76, 77, 78, 79, 200):
            self.assertEqual(listed("X", ("a" * many, Text("b"))), ["X:", " " + "a" * many, " =?latin?h?b?="])
            self.assertEqual(listed("X", ("a" * many, Text())), ["X:", " " + "a" * many, " =?latin?h??="])

    def test_charset_and_coding_are_those_of_the_whole_stretch(self):
        text = Text("a" * 60) + Text.of((8364,))
        lines = listed("X", (text,))
        for word in " ".join(lines).split()[1:]:
            self.assertTrue(word.startswith("=?steps?h?"), word)
        text = Text.of((233,) * 60) + Text("a" * 10)
        for word in " ".join(listed("X", (text,), width=50)).split()[1:]:
            self.assertTrue(word.startswith("=?latin?s?"), word)

    def test_two_stretches_have_their_own_choices(self):
        self.assertEqual(listed("X", (Text("a"), Text.of((233,)), Text.of((256,)))),
                         ["X: =?latin?h?a?= =?latin?s?6Q?= =?steps?s?gAI?="])

    def test_longest_name_at_the_smallest_width(self):
        name = "N" * 20
        text = Text.of((65535,) * 5)
        self.assertEqual(listed(name, (text,), width=50),
                         [name + ": " + word_for("steps", "s", text.part(0, 4)),
                          " " + word_for("steps", "s", text.part(4, 5))])


class Facts(unittest.TestCase):
    def test_straight_way(self):
        for pieces in sample_pieces():
            for width in (50, 61, 78, 200):
                self.assertEqual(listed("Name", pieces, width=width), straight_lines("Name", pieces, width))

    def test_laid_out_and_body_of_are_the_lines(self):
        for pieces in sample_pieces():
            for width in (50, 78, 200):
                self.assertEqual(laid_out("Name", pieces, width=width), "\n".join(listed("Name", pieces, width=width)))
                body, defects = unfolded(laid_out("X", pieces, width=width))
                self.assertEqual(defects, ())
                expected = body[3:] if pieces else ""
                self.assertEqual(body_of(pieces, width=width), expected)

    def test_every_width(self):
        mixed = ("one", Text("two words"), "x" * 47, Text(), "y z", Text.of((233, 8364) * 9), "w" * 90, Text("c" * 50))
        for pieces in (mixed, mixed[::-1], ()):
            for width in range(50, 201):
                lines = straight_lines("Name-9", pieces, width)
                self.assertEqual(listed("Name-9", pieces, width=width), lines)
                self.assertEqual("\n".join(lines_of("Name-9", pieces, width=width)), "\n".join(lines))
                self.assertEqual(laid_out("Name-9", pieces, width=width), "\n".join(lines))
                body = unfolded("\n".join(straight_lines("X", pieces, width)))[0]
                self.assertEqual(body_of(pieces, width=width), body[3:])

    def test_lines_one_after_the_other(self):
        waiting = lines_of("X", ("a" * 74, "b", Text("c"), "d" * 60), width=50)
        other = lines_of("Y", ("e",))
        found = [next(waiting), next(other), next(waiting), next(waiting), next(waiting)]
        self.assertEqual(found, ["X:", "Y: e", " " + "a" * 74, " b =?latin?h?c?=", " " + "d" * 60])
        self.assertEqual((next(waiting, None), next(other, None)), (None, None))

    def test_fact_three(self):
        for pieces in sample_pieces():
            for width in (50, 78):
                body, defects = unfolded(laid_out("Name", pieces, width=width))
                self.assertEqual(defects, ())
                rest = body.removeprefix("Name:")
                for piece in pieces:
                    if isinstance(piece, str):
                        self.assertTrue(rest.startswith(" " + piece))
                        rest = rest.removeprefix(" " + piece)
                        continue
                    codes = ()
                    is_first = True
                    while is_first or len(codes) < len(piece):
                        is_first = False
                        word = rest[1:].split(" ")[0]
                        codes = codes + reading_of(word)[0].codes
                        rest = rest.removeprefix(" " + word)
                    self.assertEqual(codes, piece.codes)
                self.assertEqual(rest, "")

    def test_fact_four(self):
        for pieces in sample_pieces():
            for width in (50, 61, 78, 200):
                for line in listed("Name", pieces, width=width):
                    if len(line) > width:
                        self.assertIn(line[1:], pieces)
                        self.assertEqual(line[0], " ")


class Errors(unittest.TestCase):
    def first_line(self, name, pieces, **named):
        return next(lines_of(name, pieces, **named))

    def test_wrong_name(self):
        for name in NO_LABELS:
            for call in (self.first_line, laid_out):
                check_error(self, BadLabel, "given", name, call, name, ("a",))
                check_error(self, BadLabel, "given", name, call, name, None, width=None)

    def test_no_tuple_of_pieces(self):
        for pieces in NO_TUPLES:
            for call in (self.first_line, laid_out):
                check_error(self, BadPiece, "place", None, call, "X", pieces)
                check_error(self, BadPiece, "place", None, call, "X", pieces, width=None)
            check_error(self, BadPiece, "place", None, body_of, pieces)
            check_error(self, BadPiece, "place", None, body_of, pieces, width=49)

    def test_first_item_that_is_no_piece(self):
        for wrong in NO_PIECES:
            for call in (self.first_line, laid_out):
                check_error(self, BadPiece, "place", 0, call, "X", (wrong,))
                check_error(self, BadPiece, "place", 2, call, "X", ("a", Text(), wrong, wrong), width=None)
            check_error(self, BadPiece, "place", 1, body_of, ("a", wrong, "b"))
            check_error(self, BadPiece, "place", 1, body_of, ("a", wrong, "b"), width=201)

    def test_wrong_width(self):
        for width in NO_WIDTHS:
            for call in (self.first_line, laid_out):
                check_error(self, BadWidth, "given", width, call, "X", ("a",), width=width)
            check_error(self, BadWidth, "given", width, body_of, (), width=width)

    def test_widths_that_may_be(self):
        for width in range(50, 201):
            self.assertEqual(laid_out("X", ("a",), width=width), "X: a")
            self.assertEqual(body_of(("a",), width=width), "a")

    def test_nothing_is_raised_before_the_first_request(self):
        for name, pieces, width, error, field, expected in (
                (None, (), 78, BadLabel, "given", None), ("", None, 49, BadLabel, "given", ""),
                ("X", None, 78, BadPiece, "place", None), ("X", ["a"], 49, BadPiece, "place", None),
                ("X", ("",), 78, BadPiece, "place", 0), ("X", ("a", Text(), " "), 201, BadPiece, "place", 2),
                ("X", (), 49, BadWidth, "given", 49), ("X", ("a",), True, BadWidth, "given", True)):
            waiting = lines_of(name, pieces, width=width)
            self.assertTrue(inspect.isgenerator(waiting))
            check_error(self, error, field, expected, next, waiting)
            # The others raise the same at once.
            check_error(self, error, field, expected, laid_out, name, pieces, width=width)

    def test_pieces_are_not_changed(self):
        pieces = ("a", Text("b" * 90), Text())
        listed("X", pieces)
        self.assertEqual(pieces, ("a", Text("b" * 90), Text()))

    def test_agreeable_object_is_no_piece(self):
        check_error(self, BadPiece, "place", 0, laid_out, "X", (Agreeable(),))


if __name__ == "__main__":
    unittest.main()
