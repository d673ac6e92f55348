"""headerfold.typed, writing: point [29] with Fact 7, and [33] for typed values."""

import inspect
import itertools
import unittest

from headerfold.encoded import best_choice, reading_of
from headerfold.errors import BadContent, BadWidth
from headerfold.laying import body_of, lines_of
from headerfold.marks import MARKS
from headerfold.texts import Text
from headerfold.typed import Typed, read_typed, typed_pieces
from tests.support import check_error, wrong_objects

NO_WIDTHS = wrong_objects() + ["78", "", (), (78,), 0, 1, 49, 201, -78, 10 ** 399, Text("a")]
E = Text.of((233,))
KEYS = ("k", "abcdefghijkl")
TEXTS = [
    Text(), Text("a"), Text(" "), Text(";"), Text("\""), Text("\\"), Text("a b"), Text("a\\b"), Text("=?latin?h?a?="),
    Text("=?x?="), Text(MARKS), Text("x" * 200), Text("x " * 90), Text("\"" * 100), Text("\\" * 100), Text("\\\" " * 60),
    Text("x" * 60 + " " + "y" * 60), Text("x" * 29 + "\"" + "y" * 90), Text("*" * 300), E, Text("a ") + E, Text.of((8364,)),
    Text.of((233, 32, 8364) * 50), Text.of((65535,) * 100), Text("b" * 100) + E, E + Text("b" * 40), Text(" ") + E,
    Text.of(tuple(range(160, 400))), Text("{233}"), Text("=?latin?h?") + E + Text("?="),
]
MAINS = ("a", "a/b", "=?x?=", "m" * 100, "=?latin?h?a?=")


def plain_form(marks):
    """What [29] calls the form, built here anew."""
    if marks != "" and not any(mark in " ;\"" for mark in marks):
        return marks
    return "\"" + marks.replace("\\", "\\\\").replace("\"", "\\\"") + "\""


def sample_typed():
    for main, key, text in itertools.product(MAINS[:2], KEYS, TEXTS):
        yield Typed(main, ((key, text),))
    for main in MAINS:
        yield Typed(main)
        yield Typed(main, tuple((f"k{place}", text) for place, text in enumerate(TEXTS)))
    yield Typed.of("a", **{f"k{place}": str(place) for place in range(300)})


class Case(unittest.TestCase):
    def check(self, typed, *pieces, width=78):
        found = typed_pieces(typed, width=width)
        self.assertIs(found.__class__, tuple)
        self.assertEqual([one.__class__ for one in found], [str] * len(found))
        self.assertEqual(found, pieces)


class Interface(Case):
    def test_names_and_parameters(self):
        parameters = inspect.signature(typed_pieces).parameters
        self.assertEqual(list(parameters), ["typed", "width"])
        self.assertEqual((parameters["width"].kind, parameters["width"].default), (inspect.Parameter.KEYWORD_ONLY, 78))
        self.assertEqual(typed_pieces.__module__, "headerfold.typed")
        self.assertEqual(typed_pieces(width=50, typed=Typed("a")), ("a",))

    def test_example(self):
        pieces = typed_pieces(Typed.of("note", text="x" * 45, to="you"), width=50)
        self.assertEqual(([len(piece) for piece in pieces], pieces[2:]), ([5, 49, 12, 6], ("text*1=xxxx;", "to=you")))

    def test_errors(self):
        for wrong in wrong_objects() + ["a", "", (), 0, Text("a"), ("a", ())]:
            check_error(self, BadContent, "given", wrong, typed_pieces, wrong)
            check_error(self, BadContent, "given", wrong, typed_pieces, wrong, width=None)
        for width in NO_WIDTHS:
            check_error(self, BadWidth, "given", width, typed_pieces, Typed("a"), width=width)


class PlainTexts(Case):
    def test_forms(self):
        for marks, form in (("x", "x"), ("", "\"\""), ("x y", "\"x y\""), (";", "\";\""), ("\"", "\"\\\"\""), ("\\", "\\"),
                            ("\\ ", "\"\\\\ \""), ("a\\b", "a\\b"), ("=", "="), ("=?x?=", "=?x?="), ("(a)", "(a)"),
                            ("=?latin?h?a?=", "=?latin?h?a?="), ("*", "*")):
            self.check(Typed.of("m", k=marks), "m;", "k=" + form)

    def test_semicolons(self):
        self.check(Typed("m"), "m")
        self.check(Typed.of("m", k="x", l="y"), "m;", "k=x;", "l=y")

    def test_forms_that_just_fit(self):
        for width in (50, 51, 78, 200):
            for key in KEYS:
                room = width - 2 - len(key) - 1
                self.check(Typed("m", ((key, Text("x" * room)),)), "m;", f"{key}=" + "x" * room, width=width)
                self.check(Typed("m", ((key, Text("x " + "y" * (room - 4))),)), "m;",
                           f"{key}=\"x " + "y" * (room - 4) + "\"", width=width)
                self.check(Typed("m", ((key, Text("x" * (room + 1))),)), "m;",
                           f"{key}*0=" + "x" * (room - 2) + ";", f"{key}*1=xxx", width=width)
                self.check(Typed("m", ((key, Text(" " + "y" * (room - 2))),)), "m;",
                           f"{key}*0=\" " + "y" * (room - 5) + "\";", f"{key}*1=yyy", width=width)

    def test_sections_of_quoted_forms(self):
        # Each quote takes two characters: (48 - 4 - 2) // 2 of them fit.
        self.check(Typed.of("m", k="\"" * 45), "m;", "k*0=\"" + "\\\"" * 21 + "\";", "k*1=\"" + "\\\"" * 21 + "\";",
                   "k*2=\"\\\"\\\"\\\"\"", width=50)
        # The last place is too narrow for a quote with its backslash.
        self.check(Typed.of("m", k="a" + "\"" * 22), "m;", "k*0=\"a" + "\\\"" * 20 + "\";", "k*1=\"\\\"\\\"\"", width=50)
        # Backslashes alone need no quotes, but within quotes each takes two characters.
        self.check(Typed.of("m", k="\\" * 50), "m;", "k*0=" + "\\" * 44 + ";", "k*1=" + "\\" * 6, width=50)
        self.check(Typed.of("m", k="\\" * 44 + " "), "m;", "k*0=" + "\\" * 44 + ";", "k*1=\" \"", width=50)
        self.check(Typed.of("m", k=" " + "\\" * 44), "m;", "k*0=\" " + "\\\\" * 20 + "\";", "k*1=" + "\\" * 24, width=50)

    def test_sections_that_need_no_quotes(self):
        self.check(Typed.of("m", k="x" * 50 + " y"), "m;", "k*0=" + "x" * 44 + ";", "k*1=\"xxxxxx y\"", width=50)
        # A space that would make the section too long is left to the next one.
        self.check(Typed.of("m", k="x" * 43 + " y"), "m;", "k*0=" + "x" * 43 + ";", "k*1=\" y\"", width=50)

    def test_numbers_of_two_digits(self):
        pieces = typed_pieces(Typed.of("m", k="x" * 500), width=50)
        self.assertEqual([len(piece) for piece in pieces[1:]], [49] * 11 + [5 + 500 - 440 - 43])
        self.assertEqual(pieces[11], "k*10=" + "x" * 43 + ";")

    def test_as_many_codes_as_possible(self):
        for text in TEXTS:
            marks = str(text)
            if not text.is_plain:
                continue
            for width, key in itertools.product((50, 63, 78), KEYS):
                pieces = [piece.removesuffix(";") for piece in typed_pieces(Typed("m", ((key, text),)), width=width)[1:-1]]
                pieces.append(typed_pieces(Typed("m", ((key, text),)), width=width)[-1])
                if len(f"{key}={plain_form(marks)}") <= width - 2:
                    self.assertEqual(pieces, [f"{key}={plain_form(marks)}"])
                    continue
                start = 0
                for number, piece in enumerate(pieces):
                    fits = [many for many in range(1, len(marks) - start + 1)
                            if len(f"{key}*{number}={plain_form(marks[start:start + many])}") <= width - 2]
                    self.assertEqual(piece, f"{key}*{number}={plain_form(marks[start:start + max(fits)])}")
                    start = start + max(fits)
                self.assertEqual(start, len(marks))


class Stretches(Case):
    def test_single_words(self):
        self.check(Typed("m", (("k", E),)), "m;", "k*==?latin?s?6Q?=")
        self.check(Typed("m", (("k", Text("caf") + E),)), "m;", "k*==?latin?h?caf=E9?=")
        self.check(Typed("m", (("k", Text("a b") + E), ("l", Text.of((8364,))))), "m;", "k*==?latin?h?a_b=E9?=;",
                   "l*==?steps?s?rEE?=")

    def test_words_of_sixty_and_sixty_one_characters(self):
        fits = Text("a" * 45) + E
        word = "=?latin?h?" + "a" * 45 + "=E9?="
        self.assertEqual(len(word), 60)
        self.check(Typed("m", (("k", fits),)), "m;", "k*=" + word, width=78)
        self.check(Typed("m", (("k", fits),)), "m;", "k*=" + word, width=65)
        self.check(Typed("m", (("k", fits),)), "m;", "k*0*==?latin?h?" + "a" * 45 + "?=;", "k*1*==?latin?h?=E9?=",
                   width=64)
        self.check(Typed("m", (("k", Text("a") + fits),)), "m;", "k*0*==?latin?h?" + "a" * 46 + "?=;",
                   "k*1*==?latin?h?=E9?=", width=200)

    def test_sections(self):
        self.check(Typed("m", (("k", E + Text("a" * 60)),)), "m;", "k*0*==?latin?h?=E9" + "a" * 28 + "?=;",
                   "k*1*==?latin?h?" + "a" * 31 + "?=;", "k*2*==?latin?h?a?=", width=50)

    def test_charset_and_coding_of_the_whole_stretch(self):
        text = Text("a" * 60) + Text.of((8364, 233))
        self.assertEqual(best_choice(text), ("steps", "h"))
        for piece in typed_pieces(Typed("m", (("k", text),)), width=50)[1:]:
            self.assertTrue(piece.split("=", 1)[1].startswith("=?steps?h?"), piece)

    def test_as_many_codes_as_possible(self):
        for text, width, key in itertools.product([one for one in TEXTS if not one.is_plain], (50, 78, 200), KEYS):
            pieces = [piece.removesuffix(";") for piece in typed_pieces(Typed("m", ((key, text),)), width=width)[1:]]
            place = 0
            for number, piece in enumerate(pieces):
                front, word = piece.split("=", 1)
                self.assertEqual(front, f"{key}*" if len(pieces) == 1 else f"{key}*{number}*")
                self.assertTrue(len(word) <= 60 and len(piece) <= width - 2)
                found, faults = reading_of(word)
                self.assertEqual((found, faults), (text.part(place, place + len(found)), ()))
                place = place + len(found)
            self.assertEqual(place, len(text))


class ThereAndBack(unittest.TestCase):
    def check(self, typed, width):
        pieces = typed_pieces(typed, width=width)
        found, defects = read_typed(body_of(pieces, width=width))
        self.assertEqual(found, typed)
        self.assertEqual(defects, ())
        self.assertEqual(typed_pieces(found, width=61), typed_pieces(typed, width=61))
        for line in lines_of("N" * 20, pieces, width=width):
            self.assertTrue(len(line) <= width or line.removesuffix(";") == " " + typed.main, line)

    def test_facts_seven_nine_and_eleven(self):
        for typed in sample_typed():
            for width in (50, 78, 200):
                self.check(typed, width)

    def test_at_every_width(self):
        typed = Typed("a/b", tuple((f"k{place}", text) for place, text in enumerate(TEXTS[::3])))
        for width in range(50, 201, 5):
            self.check(typed, width)

    def test_long_texts(self):
        for text in (Text("x" * 2000), Text("\" " * 1000), Text.of((65535,) * 2000), Text("\\;" * 1000)):
            for key in KEYS:
                self.check(Typed("a", ((key, text),)), 50)

    def check_body(self, body):
        typed, defects = read_typed(body)
        self.assertEqual(defects, tuple(sorted(set(defects))))
        for position, _ in defects:
            self.assertTrue(0 <= position <= len(body))
        self.assertEqual(read_typed(body_of(typed_pieces(typed, width=50), width=50)), (typed, ()))

    def test_fact_ten(self):
        for length, parts in ((5, "a=;\"\\ "), (5, "a*=0;"), (4, "k\"; =*")):
            for row in itertools.product(parts, repeat=length):
                self.check_body("".join(row))
        parts = ("a", "", " k=x", "K*0=y", "k*1=\"z;\\\"\"", "k*1*==?latin?h?=E9?= ", "k*=\"x", "k*2=x y", "=", "k*01=x")
        for row in itertools.product(parts, repeat=3):
            self.check_body(";".join(row))
        for body in (MARKS, MARKS[::-1], "a;k=\"" + " " * 1000, "a;" * 1000, "a;k*=" + "=?latin?h?" + "a" * 900 + "?=",
                     ";".join(f"k*{number}=x" for number in range(250)), "k" * 2000, "a;k=" + "x" * 1900):
            self.check_body(body)


if __name__ == "__main__":
    unittest.main()
