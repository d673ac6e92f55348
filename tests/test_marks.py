"""headerfold.marks: points [2] to [6] and the atoms of [17]."""

import inspect
import unittest

from headerfold import marks
from headerfold.errors import BadBody
from headerfold.marks import MARKS, is_atom, is_body, is_code, is_label, is_raw, unfolded, words_of
from tests.support import Agreeable, check_error, wrong_objects

NO_STRINGS = wrong_objects() + [(), ("a",), 0, 65, 10 ** 399]
ALL_CHARACTERS = [chr(number) for number in range(0x300)] + ["\u2028", "\ud800", "\uffff", "\U0001f600"]


def is_mark(character):
    """Point [3], in other words than the package has."""
    return " " <= character <= "~" and character != chr(37)


class Interface(unittest.TestCase):
    def test_names_and_parameters(self):
        expected = {
            "is_body": ["thing"], "is_raw": ["thing"], "is_code": ["thing"], "is_label": ["thing"],
            "is_atom": ["thing"], "unfolded": ["raw"], "words_of": ["body"],
        }
        for name, parameters in expected.items():
            function = getattr(marks, name)
            self.assertEqual(function.__module__, "headerfold.marks")
            self.assertEqual(list(inspect.signature(function).parameters), parameters)

    def test_by_name(self):
        self.assertIs(is_body(thing="a"), True)
        self.assertIs(is_raw(thing="\n"), True)
        self.assertIs(is_code(thing=65), True)
        self.assertIs(is_label(thing="a"), True)
        self.assertIs(is_atom(thing="a"), True)
        self.assertEqual(unfolded(raw="a\n b"), ("a b", ()))
        self.assertEqual(list(words_of(body="a")), [(0, "a")])


class Marks(unittest.TestCase):
    def test_marks_are_the_94_ascending(self):
        self.assertIs(MARKS.__class__, str)
        self.assertEqual(len(MARKS), 94)
        self.assertEqual(MARKS, "".join(one for one in ALL_CHARACTERS if is_mark(one)))


class Bodies(unittest.TestCase):
    def test_one_character(self):
        for character in ALL_CHARACTERS:
            self.assertIs(is_body(character), is_mark(character), ascii(character))

    def test_longer_strings(self):
        for thing in ("", " ", "  a  ", MARKS, MARKS * 3, "a" * 20000):
            self.assertIs(is_body(thing), True)

    def test_one_wrong_character_anywhere(self):
        for wrong in ("\n", "\t", "\r", "\x00", "\x7f", chr(37), "\xe9"):
            for thing in (wrong, wrong + "ab", "a" + wrong + "b", "ab" + wrong):
                self.assertIs(is_body(thing), False, ascii(thing))

    def test_other_objects(self):
        for thing in NO_STRINGS:
            self.assertIs(is_body(thing), False)


class Raws(unittest.TestCase):
    def test_one_character(self):
        for character in ALL_CHARACTERS:
            self.assertIs(is_raw(character), is_mark(character) or character == "\n", ascii(character))

    def test_longer_strings(self):
        for thing in ("", "\n", "\n\n", "a\n b\n", MARKS + "\n" + MARKS):
            self.assertIs(is_raw(thing), True)
        for thing in ("a\r\nb", "\n\t", "a\n" + chr(37), "\xa0\n"):
            self.assertIs(is_raw(thing), False)

    def test_other_objects(self):
        for thing in NO_STRINGS:
            self.assertIs(is_raw(thing), False)


class Codes(unittest.TestCase):
    def test_every_number(self):
        codes = set(range(32, 127)) - {37} | set(range(160, 65536))
        for number in range(-70000, 70000):
            if is_code(number) is not (number in codes):
                self.fail(str(number))

    def test_edges(self):
        for number in (32, 36, 38, 126, 160, 65535):
            self.assertIs(is_code(number), True, number)
        for number in (31, 37, 127, 159, 65536, 0, 1, -1, -32, -65, 10 ** 399, -10 ** 399):
            self.assertIs(is_code(number), False, number)

    def test_other_objects(self):
        for thing in wrong_objects() + [(), (65,), "", "A", "65"]:
            self.assertIs(is_code(thing), False)


class Labels(unittest.TestCase):
    def test_names(self):
        for thing in ("a", "Z", "Subject", "reply-to", "x-", "a--1", "A1", "aZ09-", "a" * 20, "a" + "-" * 19):
            self.assertIs(is_label(thing), True, thing)

    def test_lengths(self):
        for many in range(30):
            self.assertIs(is_label("n" * many), 1 <= many <= 20)

    def test_characters(self):
        for character in ALL_CHARACTERS:
            letter = character.isascii() and character.isalpha()
            self.assertIs(is_label(character), letter, ascii(character))
            more = character.isascii() and (character.isalnum() or character == "-")
            self.assertIs(is_label("a" + character), more, ascii(character))
            self.assertIs(is_label("a" + character + "b"), more, ascii(character))

    def test_wrong(self):
        for thing in ("", "-a", "1a", " a", "a ", "a\n", "\na", "a:", "a b", "a_b", "a" * 21, "a" * 20 + "\n"):
            self.assertIs(is_label(thing), False, ascii(thing))
        for thing in NO_STRINGS:
            self.assertIs(is_label(thing), False)


class Atoms(unittest.TestCase):
    def test_characters(self):
        for character in ALL_CHARACTERS:
            expected = is_mark(character) and character not in " ()<>,;:@\""
            self.assertIs(is_atom(character), expected, ascii(character))
            self.assertIs(is_atom("a" + character), expected, ascii(character))
            self.assertIs(is_atom(character + "a"), expected, ascii(character))
            self.assertIs(is_atom("a" + character + "a"), expected, ascii(character))

    def test_84_marks_are_left(self):
        self.assertEqual(sum(is_atom(mark) for mark in MARKS), 84)

    def test_wrong(self):
        for thing in ["", " ", "a b", "a\n", "\n"] + NO_STRINGS:
            self.assertIs(is_atom(thing), False)

    def test_long_and_encoded(self):
        for thing in ("=?latin?h?a?=", "a" * 20000, "\\", "a.b[c]", "'"):
            self.assertIs(is_atom(thing), True)


class Unfolding(unittest.TestCase):
    def test_example(self):
        self.assertEqual((unfolded("a\n b\nc"), list(words_of(" ab  c"))),
                         (("a b c", ((3, "line"),)), [(1, "ab"), (5, "c")]))

    def test_without_newlines(self):
        for raw in ("", " ", "  a  b ", MARKS):
            self.assertEqual(unfolded(raw), (raw, ()))

    def test_folds(self):
        for raw, body in (("a\n b", "a b"), ("a\n  b", "a  b"), ("a \n b", "a  b"), ("\n a", " a"), ("\n ", " "),
                          ("a\n \n b", "a  b"), ("a\n b\n c", "a b c"), ("a\n ", "a ")):
            self.assertEqual(unfolded(raw), (body, ()), raw)

    def test_other_newlines(self):
        for raw, body, places in (
                ("\n", " ", (0,)), ("a\n", "a ", (1,)), ("\na", " a", (0,)), ("a\nb", "a b", (1,)),
                ("a \nb", "a  b", (2,)), ("a\nb\nc", "a b c", (1, 3))):
            self.assertEqual(unfolded(raw), (body, tuple((place, "line") for place in places)), raw)

    def test_newlines_side_by_side(self):
        for raw, body, places in (
                ("\n\n", "  ", (0, 1)), ("\n\n\n", "   ", (0, 1, 2)), ("a\n\nb", "a  b", (1, 2)),
                ("a\n\n b", "a  b", (1,)), ("\n\n a", "  a", (0,)), ("\n \n", "  ", (1,)),
                ("a\n b\n\n\n c\nd\n", "a b   c d ", (3, 4, 7, 9))):
            self.assertEqual(unfolded(raw), (body, tuple((place, "line") for place in places)), raw)

    def test_header_texts_are_not_looked_for(self):
        self.assertEqual(unfolded("To: a\n b\n"), ("To: a b ", ((7, "line"),)))
        self.assertEqual(unfolded(" a"), (" a", ()))

    def test_answers_are_tuples_of_pairs(self):
        answer = unfolded("a\nb")
        self.assertIs(answer.__class__, tuple)
        self.assertIs(answer[1].__class__, tuple)
        self.assertIs(answer[1][0].__class__, tuple)

    def test_agrees_with_the_words_of_the_point(self):
        for number in range(4 ** 6):
            raw = ""
            for _ in range(6):
                raw += "\n a\n"[number % 4]
                number //= 4
            body = ""
            defects = []
            for place, character in enumerate(raw):
                if character != "\n":
                    body += character
                elif raw[place + 1:place + 2] != " ":
                    defects.append((len(body), "line"))
                    body += " "
            self.assertEqual(unfolded(raw), (body, tuple(defects)), repr(raw))

    def test_wrong(self):
        for raw in NO_STRINGS + ["\t", "a\r\n b", "a" + chr(37), "\xe9", "a\x7f", "\x1f"]:
            check_error(self, BadBody, "given", raw, unfolded, raw)
            check_error(self, BadBody, "given", raw, unfolded, raw=raw)


class Words(unittest.TestCase):
    def test_words_and_gaps(self):
        for body, words in (
                ("", []), (" ", []), ("    ", []), ("a", [(0, "a")]), (" a", [(1, "a")]), ("a ", [(0, "a")]),
                ("a b", [(0, "a"), (2, "b")]), ("ab   cd", [(0, "ab"), (5, "cd")]),
                ("  ab  c   d ", [(2, "ab"), (6, "c"), (10, "d")]), (",; (:)", [(0, ",;"), (3, "(:)")]),
                (MARKS, [(1, MARKS[1:])])):
            self.assertEqual(list(words_of(body)), words, body)

    def test_words_are_where_they_are_said_to_be(self):
        body = " one  two-three    4 "
        for position, word in words_of(body):
            self.assertEqual(body[position:position + len(word)], word)

    def test_a_generator(self):
        words = words_of("a b")
        self.assertTrue(inspect.isgenerator(words))
        self.assertEqual(next(words), (0, "a"))
        self.assertEqual(next(words), (2, "b"))
        self.assertRaises(StopIteration, next, words)

    def test_wrong_when_the_first_item_is_requested(self):
        for body in NO_STRINGS + ["\n", "a\n b", "a\n", "\t", chr(37), "\xa0", "a b\x7f"]:
            words = words_of(body)
            check_error(self, BadBody, "given", body, next, words)
            check_error(self, BadBody, "given", body, next, words_of(body=body))

    def test_own_object_stays_wrong(self):
        thing = Agreeable()
        check_error(self, BadBody, "given", thing, list, words_of(thing))


if __name__ == "__main__":
    unittest.main()
