"""headerfold.encoded: points [7], [10] and [11], Facts 1 and 2, and the interface."""

import inspect
import itertools
import unittest

from headerfold import encoded
from headerfold.encoded import best_choice, first_word, has_shape, reading_of, word_for
from headerfold.errors import BadBody, BadCharset, BadCode, BadCoding, BadNumber, BadText
from headerfold.marks import MARKS
from headerfold.texts import Text
from tests.support import check_error, wrong_objects

NO_STRINGS = wrong_objects() + [(), ("h",), 0, 1, Text("h")]
NO_TEXTS = wrong_objects() + ["", "ab", (), (97,), 0, 1]
NO_BODIES = NO_STRINGS + ["\n", "a\n", "\t", "\xe9", "\x7f", chr(37), "=?latin?h?\xe9?="]
NO_ROOMS = wrong_objects() + ["", "60", (), (60,), -1, -60, -10 ** 399, Text("a")]
SOME_CODES = (32, 63, 65, 97, 126, 160, 233, 255, 256, 8364, 16383, 16384, 65535)


def text_of(*codes):
    return Text.of(codes)


def sample_texts():
    """Texts of all kinds, short and long."""
    texts = [Text(), Text("a"), Text("abc def"), Text("=?x?="), Text("a" * 48), Text("a" * 49), Text("_" * 20),
             Text("a" * 70), Text(" " * 70), Text(MARKS), text_of(*range(160, 256)), text_of(*[8364] * 40)]
    texts.extend(text_of(*codes) for codes in itertools.product(SOME_CODES, repeat=2))
    texts.extend(text_of(*(SOME_CODES[k::step] * 12)) for step in (1, 2, 3, 5) for k in range(step))
    texts.extend(text_of(*([97] * plain + [233] * other)) for plain in range(0, 60, 7) for other in range(0, 60, 7))
    return texts


class Interface(unittest.TestCase):
    def test_names_and_parameters(self):
        expected = {
            "has_shape": ["word"], "word_for": ["charset", "coding", "text"], "reading_of": ["word"],
            "best_choice": ["text"], "first_word": ["charset", "coding", "text", "room"],
        }
        for name, parameters in expected.items():
            function = getattr(encoded, name)
            self.assertEqual(function.__module__, "headerfold.encoded")
            self.assertEqual(list(inspect.signature(function).parameters), parameters)

    def test_by_name(self):
        self.assertIs(has_shape(word="=??="), True)
        self.assertEqual(word_for(text=Text("a"), coding="h", charset="wide"), "=?wide?h?=00a?=")
        self.assertEqual(reading_of(word="=??="), (None, ("parts",)))
        self.assertEqual(best_choice(text=Text("a")), ("latin", "h"))
        self.assertEqual(first_word(room=13, text=Text("ab"), coding="h", charset="latin"),
                         ("=?latin?h?a?=", Text("b")))

    def test_examples(self):
        self.assertEqual(
            (str(reading_of("=?latin?h?a=E9?=")[0]), reading_of("=?latin?h?a=?="), best_choice(text_of(233, 97))),
            ("a{233}", (None, ("payload",)), ("latin", "s")))
        self.assertEqual(first_word("latin", "h", Text("abcdef"), 16)[0], "=?latin?h?abcd?=")


class Shape(unittest.TestCase):
    def test_words_with_the_shape(self):
        for word in ("=??=", "=?x?=", "=???=", "=????=", "=?=?=", "=?latin?h?a?=", "=?LATIN?H?A?=", "=?\"(,)?=",
                     "=?" + "x" * 100 + "?=", "=?=??=?="):
            self.assertIs(has_shape(word), True, word)

    def test_words_without_it(self):
        for word in ("", "=", "=?", "?=", "=?=", "=?a", "a?=", "=?a=", "=a?=", "?=a=?", "x=?a?=", "=?a?=x", "=?a?",
                     "?a?=", "==??", "??==", "=?a?=,", "a"):
            self.assertIs(has_shape(word), False, word)

    def test_spaces_and_characters_that_are_no_marks(self):
        for word in ("=? ?=", "=?a b?=", "=?latin?h?a b?=", " =??=", "=??= ", "=?\n?=", "=??=\n", "=?\t?=",
                     "=?\xe9?=", "=?\x7f?=", "=?" + chr(37) + "?="):
            self.assertIs(has_shape(word), False, word)

    def test_other_objects(self):
        for thing in NO_STRINGS + [b"=??=", ["=", "?", "?", "="], ("=", "?", "?", "=")]:
            self.assertIs(has_shape(thing), False)


class Words(unittest.TestCase):
    def test_ordinary(self):
        for charset, coding, text, word in (
                ("latin", "h", Text(), "=?latin?h??="), ("wide", "s", Text(), "=?wide?s??="),
                ("latin", "h", Text("a b"), "=?latin?h?a_b?="), ("latin", "s", text_of(0 + 160), "=?latin?s?oA?="),
                ("wide", "h", text_of(97, 8364), "=?wide?h?=00a_=AC?="),
                ("steps", "h", text_of(97, 233), "=?steps?h?a=E9=01?="),
                ("steps", "s", text_of(65535), "=?steps?s?--8D?="), ("latin", "h", Text("?="), "=?latin?h?=3F=3D?=")):
            self.assertEqual(word_for(charset, coding, text), word)

    def test_however_long(self):
        self.assertEqual(word_for("latin", "h", Text("a" * 2000)), "=?latin?h?" + "a" * 2000 + "?=")
        self.assertEqual(len(word_for("steps", "s", text_of(*[65535] * 999))), 12 + 999 * 4)

    def test_every_word_has_the_shape(self):
        for text in sample_texts():
            for charset, coding in itertools.product(("wide", "steps"), ("h", "s")):
                self.assertTrue(has_shape(word_for(charset, coding, text)))


class Errors(unittest.TestCase):
    """The errors of word_for and first_word, and their order."""

    def calls(self):
        return [word_for, lambda charset, coding, text: first_word(charset, coding, text, 60),
                lambda charset, coding, text: first_word(charset, coding, text, 0),
                lambda charset, coding, text: first_word(charset, coding, text, None)]

    def test_wrong_charset(self):
        for charset in NO_STRINGS + ["", "LATIN", "latin ", "lat", "utf-8", "h", "latinwide"]:
            for call in self.calls():
                check_error(self, BadCharset, "given", charset, call, charset, "h", Text("a"))
                check_error(self, BadCharset, "given", charset, call, charset, None, None)

    def test_wrong_coding(self):
        for coding in NO_STRINGS + ["", "H", "hs", "s ", "latin"]:
            for call in self.calls():
                check_error(self, BadCoding, "given", coding, call, "latin", coding, Text("a"))
                check_error(self, BadCoding, "given", coding, call, "latin", coding, None)
                check_error(self, BadCoding, "given", coding, call, "latin", coding, text_of(256))

    def test_no_text(self):
        for text in NO_TEXTS:
            for call in self.calls():
                for charset, coding in itertools.product(("latin", "wide", "steps"), ("h", "s")):
                    check_error(self, BadText, "given", text, call, charset, coding, text)

    def test_code_that_is_too_large(self):
        long_text = text_of(*[97] * 100 + [256] * 3)
        for call in self.calls():
            for coding in ("h", "s"):
                check_error(self, BadCode, "place", 0, call, "latin", coding, text_of(256))
                check_error(self, BadCode, "place", 2, call, "latin", coding, text_of(255, 97, 65535, 256))
                check_error(self, BadCode, "place", 100, call, "latin", coding, long_text)

    def test_no_room(self):
        for room in NO_ROOMS:
            for charset, coding in itertools.product(("latin", "wide", "steps"), ("h", "s")):
                check_error(self, BadNumber, "given", room, first_word, charset, coding, Text("a"), room)
                check_error(self, BadNumber, "given", room, first_word, charset, coding, Text(), room=room)

    def test_best_choice(self):
        for text in NO_TEXTS:
            check_error(self, BadText, "given", text, best_choice, text)
            check_error(self, BadText, "given", text, best_choice, text=text)

    def test_reading(self):
        for word in NO_BODIES + [" ", "a b", " a", "a ", "=?latin?h?a b?=", "=?latin?h?a?= "]:
            check_error(self, BadBody, "given", word, reading_of, word)
            check_error(self, BadBody, "given", word, reading_of, word=word)


class Reading(unittest.TestCase):
    def check(self, word, codes, *defects):
        text, found = reading_of(word)
        self.assertEqual(found, defects, word)
        self.assertIs(found.__class__, tuple)
        if codes is None:
            self.assertIsNone(text)
        else:
            self.assertEqual(text.codes, codes)

    def test_words_without_the_shape(self):
        for word in ("", "a", "=?=", "=?a", "a?=", "x=?latin?h?a?=", "=?latin?h?a?=x", "\"=?latin?h?a?=\"", "=?q?",
                     "a" * 80):
            self.check(word, None)

    def test_right_words(self):
        for word, codes in (
                ("=?latin?h??=", ()), ("=?latin?s??=", ()), ("=?wide?h??=", ()), ("=?steps?s??=", ()),
                ("=?latin?h?a?=", (97,)), ("=?latin?h?a_b?=", (97, 32, 98)), ("=?latin?h?=E9=20?=", (233, 32)),
                ("=?latin?s?YQ?=", (97,)), ("=?latin?s?YWI?=", (97, 98)), ("=?latin?s?YWJj?=", (97, 98, 99)),
                ("=?wide?h?=00a=20=AC?=", (97, 8364)), ("=?wide?s?AGE?=", (97,)),
                ("=?steps?h?a=E9=01?=", (97, 233)), ("=?steps?s?--8D?=", (65535,)), ("=?latin?h?=3F=3D?=", (63, 61))):
            self.check(word, codes)

    def test_parts(self):
        for word in ("=??=", "=?x?=", "=?latin?=", "=?latin?h?=", "=???=", "=?latin?h?a?b?=", "=?latin?h?a??=",
                     "=??latin?h?a?=", "=?latin?h??a?=", "=?x?y?z?w?=", "=?latin??h?a?=", "=?=?="):
            self.check(word, None, "parts")

    def test_charset(self):
        for word in ("=????=", "=??h?a?=", "=?x?h?a?=", "=?LATIN?h?a?=", "=?Latin?h?a?=", "=?latin*?h?a?=",
                     "=?lat?h?a?=", "=?utf-8?h?a?=", "=?h?latin?a?=", "=?x?q?=?="):
            self.check(word, None, "charset")

    def test_coding(self):
        for word in ("=?latin???=", "=?latin??a?=", "=?latin?q?a?=", "=?wide?H?a?=", "=?steps?S?a?=", "=?latin?hs?a?=",
                     "=?latin?latin?a?=", "=?latin?q?=?="):
            self.check(word, None, "coding")

    def test_payload(self):
        for word in ("=?latin?h?a=?=", "=?latin?h?=4?=", "=?latin?h?=e9?=", "=?latin?h?=4G?=", "=?latin?h?a-b?=",
                     "=?latin?h?a.b?=", "=?latin?h?=?=", "=?wide?h?(?=", "=?latin?s?A?=", "=?latin?s?AAAAA?=",
                     "=?latin?s?AB?=", "=?latin?s?AAB?=", "=?latin?s?A_?=", "=?latin?s?AA==?=", "=?steps?s?/?="):
            self.check(word, None, "payload")

    def test_octets(self):
        for word, codes in (
                ("=?latin?h?=00?=", (63,)), ("=?latin?h?a=9F=7Fb?=", (97, 63, 63, 98)), ("=?latin?h?=25?=", (63,)),
                ("=?wide?h?a?=", (63,)), ("=?wide?h?=00ab?=", (97, 63)), ("=?wide?h?=00=25?=", (63,)),
                ("=?wide?s?AA?=", (63,)), ("=?wide?h?=00=00=00a?=", (63, 97)),
                ("=?steps?h?=80?=", (63,)), ("=?steps?h?a=E9?=", (97, 63)), ("=?steps?h?=E1=00?=", (63,)),
                ("=?steps?h?=00?=", (63,)), ("=?steps?h?=FF=FF=FF?=", (63,)), ("=?steps?h?=FF=FF=04?=", (63,)),
                ("=?steps?h?=E1=80=00a?=", (63, 97)), ("=?steps?h?=E1=80=80a?=", (63, 97))):
            self.check(word, codes, "octets")

    def test_long(self):
        self.check("=?latin?h?" + "a" * 47 + "?=", (97,) * 47)
        self.check("=?latin?h?" + "a" * 48 + "?=", (97,) * 48)
        self.check("=?latin?h?" + "a" * 49 + "?=", (97,) * 49, "long")
        self.check("=?latin?s?" + "A" * 48 + "?=", (63,) * 36, "octets")
        self.check("=?latin?h?" + "a" * 500 + "?=", (97,) * 500, "long")

    def test_sixty_and_sixty_one_characters(self):
        for charset, coding, mark in itertools.product(("latin", "wide", "steps"), ("h",), "a"):
            frame = len("=?" + charset + "?" + coding + "??=")
            for length, is_long in ((59, False), (60, False), (61, True)):
                word = "=?" + charset + "?" + coding + "?" + mark * (length - frame) + "?="
                self.assertEqual(len(word), length)
                self.assertEqual("long" in reading_of(word)[1], is_long)

    def test_two_defects_at_one_word(self):
        self.check("=?latin?h?" + "a" * 48 + "=00?=", (97,) * 48 + (63,), "long", "octets")
        self.check("=?wide?h?" + "=00a" * 13 + "b?=", (97,) * 13 + (63,), "long", "octets")
        self.check("=?steps?s?" + "gICA" * 13 + "?=", (63,) * 13, "long", "octets")

    def test_wrong_words_have_one_defect(self):
        for inside, defect in (("a" * 100, "parts"), ("x?y?" + "=" * 100, "charset"), ("latin?y?" + "=" * 100, "coding"),
                               ("latin?h?" + "=" * 100, "payload"), ("latin?s?" + "A" * 101, "payload")):
            self.check("=?" + inside + "?=", None, defect)


class FactOne(unittest.TestCase):
    def test_what_is_written_is_read(self):
        for text in sample_texts():
            for charset, coding in itertools.product(("latin", "wide", "steps"), ("h", "s")):
                if charset == "latin" and max(text.codes, default=0) > 255:
                    continue
                word = word_for(charset, coding, text)
                found, defects = reading_of(word)
                self.assertEqual(found, text)
                self.assertEqual(defects, ("long",) if len(word) > 60 else ())


class Choice(unittest.TestCase):
    def test_charset(self):
        for codes, charset in (((), "latin"), ((97,), "latin"), ((255,), "latin"), ((97, 233, 255), "latin"),
                               ((256,), "steps"), ((97, 97, 97, 256), "steps"), ((65535, 97), "steps")):
            self.assertEqual(best_choice(Text.of(codes))[0], charset)

    def test_coding(self):
        for codes, coding in (
                ((), "h"), ((97,), "h"), ((233,), "s"), ((97, 233), "s"), ((97, 98, 233), "s"),
                ((97, 98, 99, 233), "h"), ((97,) * 5 + (233,), "h"), ((97,) * 5 + (233, 233), "s"),
                ((32,) * 9, "h"), ((233,) * 9, "s"), ((43,), "s"), ((97, 43), "s")):
            self.assertEqual(best_choice(Text.of(codes))[1], coding, codes)

    def test_h_where_both_are_equal(self):
        # Four octets are six digits; three letters and one octet with three characters are six, too.
        self.assertEqual(len(word_for("latin", "h", text_of(97, 98, 99, 233))),
                         len(word_for("latin", "s", text_of(97, 98, 99, 233))))
        self.assertEqual(best_choice(text_of(97, 98, 99, 233)), ("latin", "h"))
        self.assertEqual(best_choice(text_of(97, 97, 256, 97, 97)), ("steps", "s"))
        self.assertEqual(best_choice(text_of(97, 97, 97, 97, 97, 97, 97, 97, 97, 256)), ("steps", "h"))

    def test_shorter_one_of_all_samples(self):
        for text in sample_texts():
            charset, coding = best_choice(text)
            self.assertEqual(charset, "steps" if max(text.codes, default=0) > 255 else "latin")
            lengths = {coding: len(word_for(charset, coding, text)) for coding in ("h", "s")}
            self.assertEqual(coding, "h" if lengths["h"] <= lengths["s"] else "s")


class FirstWord(unittest.TestCase):
    def straight(self, charset, coding, text, room):
        """The answer that is found by trying all numbers of codes, the largest first."""
        for many in range(len(text), -1, -1):
            word = word_for(charset, coding, text.part(0, many))
            if len(word) <= min(room, 60) and (many > 0 or len(text) == 0):
                return word, text.part(many, len(text))
        return None

    def test_no_code_fits(self):
        self.assertIsNone(first_word("latin", "h", Text("abc"), 0))
        self.assertIsNone(first_word("latin", "h", Text("abc"), 12))
        self.assertIsNone(first_word("latin", "h", text_of(233, 97), 14))
        self.assertIsNone(first_word("steps", "h", text_of(65535), 20))
        self.assertIsNone(first_word("wide", "s", text_of(97), 13))

    def test_one_code_fits(self):
        self.assertEqual(first_word("latin", "h", Text("abc"), 13), ("=?latin?h?a?=", Text("bc")))
        self.assertEqual(first_word("latin", "h", text_of(233, 97), 15), ("=?latin?h?=E9?=", Text("a")))
        self.assertEqual(first_word("steps", "h", text_of(65535), 21), ("=?steps?h?=FF=FF=03?=", Text()))
        self.assertEqual(first_word("wide", "s", text_of(97, 98), 14), ("=?wide?s?AGE?=", Text("b")))

    def test_all_codes_fit(self):
        self.assertEqual(first_word("latin", "h", Text("abc"), 15), ("=?latin?h?abc?=", Text()))
        self.assertEqual(first_word("latin", "h", Text("abc"), 60), ("=?latin?h?abc?=", Text()))
        self.assertEqual(first_word("latin", "s", Text("abc"), 16), ("=?latin?s?YWJj?=", Text()))

    def test_more_than_sixty(self):
        for room in (60, 61, 78, 200, 10 ** 399):
            self.assertEqual(first_word("latin", "h", Text("a" * 50), room),
                             ("=?latin?h?" + "a" * 48 + "?=", Text("aa")))
        self.assertEqual(first_word("latin", "h", Text("a" * 50), 59), ("=?latin?h?" + "a" * 47 + "?=", Text("aaa")))

    def test_empty_text(self):
        for room in (0, 1, 10, 11):
            self.assertIsNone(first_word("latin", "h", Text(), room))
        self.assertIsNone(first_word("wide", "s", Text(), 10))
        self.assertEqual(first_word("wide", "s", Text(), 11), ("=?wide?s??=", Text()))
        for room in (12, 13, 60, 61, 10 ** 399):
            self.assertEqual(first_word("latin", "h", Text(), room), ("=?latin?h??=", Text()))
            self.assertEqual(first_word("steps", "s", Text(), room), ("=?steps?s??=", Text()))

    def test_the_answer_is_a_pair(self):
        answer = first_word("latin", "h", Text("ab"), 13)
        self.assertIs(answer.__class__, tuple)
        self.assertIs(answer[1].__class__, Text)

    def test_every_room(self):
        texts = [Text("abcdef"), text_of(97, 233, 97, 97, 233, 233, 32), text_of(*range(160, 190)),
                 text_of(97, 8364, 65535, 300, 97, 97, 16383, 16384, 8364, 65535), Text("a" * 61), Text(" +-" * 9)]
        for text in texts:
            for charset, coding in itertools.product(("latin", "wide", "steps"), ("h", "s")):
                if charset == "latin" and max(text.codes) > 255:
                    continue
                for room in range(64):
                    self.assertEqual(first_word(charset, coding, text, room),
                                     self.straight(charset, coding, text, room))

    def test_fact_two(self):
        for text in sample_texts():
            charset, coding = best_choice(text)
            for room in (21, 22, 30, 47, 60):
                codes = ()
                rest = text
                while len(rest) > 0:
                    word, rest = first_word(charset, coding, rest, room)
                    self.assertLessEqual(len(word), room)
                    found, defects = reading_of(word)
                    self.assertEqual(defects, ())
                    codes = codes + found.codes
                self.assertEqual(codes, text.codes)

    def test_a_word_for_one_code_has_at_most_21_characters(self):
        for code in (32, 97, 126, 160, 255, 256, 8364, 16383, 16384, 65535):
            text = text_of(code)
            charset, coding = best_choice(text)
            self.assertLessEqual(len(word_for(charset, coding, text)), 21)
            self.assertLessEqual(len(word_for("steps", "h", text)), 21)


if __name__ == "__main__":
    unittest.main()
