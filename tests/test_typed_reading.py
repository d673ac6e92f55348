"""headerfold.typed, reading: points [26], [27] and [28] and the interface."""

import unittest

from headerfold.errors import BadBody
from headerfold.marks import MARKS
from headerfold.texts import Text
from headerfold.typed import Typed, read_typed
from tests.support import check_error, wrong_objects

NO_BODIES = wrong_objects() + [(), 0, Text("a"), Typed("a"), "\n", "a;\nb=c", "\t", "\xe9", "a\x7f", chr(37)]
LONG = "=?latin?h?" + "a" * 49 + "?="


class Interface(unittest.TestCase):
    def test_example(self):
        typed, defects = read_typed("a/b; K*1=y; k*0=x; k*3=z; m*=\"q\"; m=2;; 3=4")
        self.assertEqual((typed.main, [(key, str(text)) for key, text in typed.parameters], defects), (
            "a/b", [("k", "xy"), ("m", "q")],
            ((19, "section"), (29, "shape"), (34, "double"), (38, "empty"), (40, "part"))))

    def test_kinds_of_the_answer(self):
        self.assertEqual(read_typed.__module__, "headerfold.typed")
        for body in ("", "a", "a;b=c", ";;"):
            self.assertEqual([one.__class__ for one in read_typed(body=body)], [Typed, tuple])

    def test_errors(self):
        for wrong in NO_BODIES:
            check_error(self, BadBody, "given", wrong, read_typed, wrong)


class Case(unittest.TestCase):
    def check(self, body, main, pairs, *defects):
        """The texts of the pairs are strings of marks, or texts."""
        typed, found = read_typed(body)
        expected = tuple((key, text if isinstance(text, Text) else Text(text)) for key, text in pairs)
        self.assertEqual(typed.main, main, body)
        self.assertEqual([(key, str(text)) for key, text in typed.parameters],
                         [(key, str(text)) for key, text in expected], body)
        self.assertEqual(typed.parameters, expected, body)
        self.assertEqual(found, defects, body)


class Mains(Case):
    def test_right_ones(self):
        for body in ("a", " a", "a ", "  a  "):
            self.check(body, "a", [])
        self.check("a/b;k=x", "a/b", [("k", "x")])
        self.check("a=b;k=x", "a=b", [("k", "x")])
        self.check("=?latin?h?a?=", "=?latin?h?a?=", [])
        marks = "".join(mark for mark in MARKS if mark not in " ;\"")
        self.check(marks, marks, [])

    def test_wrong_characters(self):
        self.check("a b", "a", [], (1, "main"))
        self.check("  a  b", "a", [], (3, "main"))
        self.check("a\"b\"", "a", [], (1, "main"))
        self.check("ab \"c;d\" e; k=x", "ab", [("k", "x")], (2, "main"))
        self.check("a b c d", "a", [], (1, "main"))

    def test_no_value_marks(self):
        self.check("\"a\"; k=x", "text", [("k", "x")], (0, "main"))
        self.check(" \"\" ", "text", [], (1, "main"))

    def test_empty_ones(self):
        self.check("", "text", [], (0, "main"))
        self.check("   ", "text", [], (3, "main"))
        self.check(";k=x", "text", [("k", "x")], (0, "main"))
        self.check("  ; k=x", "text", [("k", "x")], (2, "main"))

    def test_unended_quote(self):
        self.check("a\"b; k=x", "a", [], (1, "main"), (1, "quote"))
        self.check("\"", "text", [], (0, "main"), (0, "quote"))
        self.check("  \"  ", "text", [], (2, "main"), (2, "quote"))
        self.check("a \"b", "a", [], (1, "main"), (2, "quote"))


class Parts(Case):
    def test_right_ones(self):
        self.check("a; k=x; l=y", "a", [("k", "x"), ("l", "y")])
        self.check("a;k=x;l=y", "a", [("k", "x"), ("l", "y")])
        self.check("a ;  k=x  ;  l=y  ", "a", [("k", "x"), ("l", "y")])
        self.check("a; k==; l=a=b; m=*", "a", [("k", "="), ("l", "a=b"), ("m", "*")])
        self.check("a; k=\\; l=a\\b", "a", [("k", "\\"), ("l", "a\\b")])

    def test_keys(self):
        for key in ("k", "K", "abcdefghijkl", "ABCDEFGHIJKL", "a-", "Z9", "a1-b2"):
            self.check(f"a; {key}=x", "a", [(key.lower(), "x")])
        for key in ("abcdefghijklm", "", "1", "-a", "a_b", "a.", "a b", "a ", "(a)", "\"a\"", "@"):
            self.check(f"a; {key}=x", "a", [], (3, "part"))

    def test_keys_of_thirteen_characters_with_stars(self):
        self.check("a; abcdefghijkl*0*=x", "a", [("abcdefghijkl", "x")], (19, "shape"))
        self.check("a; abcdefghijklm*0=x", "a", [], (3, "part"))

    def test_empty_ones(self):
        self.check("a;", "a", [], (2, "empty"))
        self.check("a;  ", "a", [], (4, "empty"))
        self.check("a;;k=x", "a", [("k", "x")], (2, "empty"))
        self.check("a; ;  ;k=x;", "a", [("k", "x")], (3, "empty"), (6, "empty"), (11, "empty"))
        self.check(";", "text", [], (0, "main"), (1, "empty"))

    def test_wrong_ones(self):
        for part in ("k", "k=", "k= ", "=x", "=", "k =x", "k= x", "*", "k*", "k**=x", "k*x=x", "k*0", "k*0*", "k*0*1=x",
                     "k*0**=x", "k*=", "*0=x", "k*-1=x", "k*+1=x", "k* 0=x", "k*0 =x", "x", "\"k=x\"", "k\"=x\"",
                     "k= \"x\""):
            self.check(f"a;  {part}", "a", [], (4, "part"))
            self.check(f"a;  {part} ; l=y", "a", [("l", "y")], (4, "part"))

    def test_numbers(self):
        self.check("a; k*0=x", "a", [("k", "x")])
        for number in ("00", "01", "0000", "0001", "00000", "10000", "12345", "a", "1a", "", " "):
            self.check(f"a; k*{number}=x" if number else "a; k**=x", "a", [], (3, "part"))
        for number in ("1", "9", "10", "999", "9999", "1000"):
            self.check(f"a; k*{number}=x", "a", [], (3, "section"))
            self.check(f"a; k*0=x; k*{number}*=y", "a", [("k", "xy" if number == "1" else "x")],
                       *sorted([(14 + len(number), "shape")] + [(10, "section")] * (number != "1")))

    def test_what_follows(self):
        self.check("a; k=x y", "a", [("k", "x")], (7, "extra"))
        self.check("a; k=x   y z ; l=w", "a", [("k", "x"), ("l", "w")], (9, "extra"))
        self.check("a; k=x\"y\"", "a", [("k", "x")], (6, "extra"))
        self.check("a; k=\"x\"y", "a", [("k", "x")], (8, "extra"))
        self.check("a; k=\"x\"\"y;\"", "a", [("k", "x")], (8, "extra"))
        self.check("a; k=\"x\"  =y", "a", [("k", "x")], (10, "extra"))
        self.check("a; k=x \"y; l=z", "a", [("k", "x")], (7, "extra"), (7, "quote"))
        self.check("a; k=\"x\"   ", "a", [("k", "x")])


class Quoted(Case):
    def test_contents(self):
        self.check("a; k=\"\"", "a", [("k", "")])
        self.check("a; k=\"x y\"", "a", [("k", "x y")])
        self.check("a; k=\"  x \"", "a", [("k", "  x ")])
        self.check("a; k=\";\"; l=\"a;b=c;\"", "a", [("k", ";"), ("l", "a;b=c;")])
        self.check("a; k=\"\\\"\\\\\\a\"", "a", [("k", "\"\\a")])
        self.check("a; k=\"\\\";\"; l=x", "a", [("k", "\";"), ("l", "x")])
        self.check("a; k=\"\\\\\"; l=x", "a", [("k", "\\"), ("l", "x")])
        self.check("a; k=\"=?latin?h?a?=\"", "a", [("k", "=?latin?h?a?=")])
        self.check("a; k=\"(\"; l=\")\"", "a", [("k", "("), ("l", ")")])

    def test_without_an_end(self):
        self.check("a; k=\"", "a", [("k", "")], (5, "quote"))
        self.check("a; k=\"x; l=y", "a", [("k", "x; l=y")], (5, "quote"))
        self.check("a; k=\"x  ", "a", [("k", "x  ")], (5, "quote"))
        self.check("a; k=\"  ", "a", [("k", "  ")], (5, "quote"))
        self.check("a; k=\"x\\", "a", [("k", "x\\")], (5, "quote"))
        self.check("a; k=\"x\\\"", "a", [("k", "x\"")], (5, "quote"))
        self.check("a; k=\"x\\\\", "a", [("k", "x\\")], (5, "quote"))
        self.check("a; x \" ; l=y", "a", [], (3, "part"), (5, "quote"))
        self.check("a; \"", "a", [], (3, "part"), (3, "quote"))

    def test_quotes_in_wrong_places(self):
        self.check("a; \"k;l\"=x; m=y", "a", [("m", "y")], (3, "part"))
        self.check("a; k\";\"=x; m=y", "a", [("m", "y")], (3, "part"))
        self.check("a\";\"b; m=y", "a", [("m", "y")], (1, "main"))
        # A backslash outside of quotes takes nothing.
        self.check("a; k=\\\"x;y\"; l=z", "a", [("k", "\\"), ("l", "z")], (6, "extra"))


class Flags(Case):
    def test_right_words(self):
        self.check("a; k*==?latin?h?=E9_x?=", "a", [("k", Text.of((233, 32, 120)))])
        self.check("a; k*==?latin?h??=; l*==?steps?s??=", "a", [("k", ""), ("l", "")])
        self.check("a; K*0*==?latin?h?a?=; k*1*==?wide?s?AOkgrA?=", "a", [("k", Text.of((97, 233, 8364)))])

    def test_without_a_flag(self):
        self.check("a; k==?latin?h?a?=; l==?x?=", "a", [("k", "=?latin?h?a?="), ("l", "=?x?=")])
        self.check("a; k*0==?latin?h?a?=", "a", [("k", "=?latin?h?a?=")])

    def test_wrong_words(self):
        for word, defect in (("=??=", "parts"), ("=?a?b?c?d?=", "parts"), ("=?x?h?a?=", "charset"),
                             ("=?latin?x?a?=", "coding"), ("=?latin?h?-?=", "payload"), ("=?latin?s?a?=", "payload")):
            self.check(f"a; k*={word}", "a", [("k", word)], (6, defect))
            self.check(f"a; k*10*={word}", "a", [], (3, "section"), (9, defect))

    def test_words_with_defects_that_are_read(self):
        self.check("a; k*==?wide?h?a?=", "a", [("k", "?")], (6, "octets"))
        self.check("a; k*=" + LONG, "a", [("k", "a" * 49)], (6, "long"))
        self.check("a; k*=" + LONG.replace("aa", "a", 1), "a", [("k", "a" * 48)])
        self.check("a; k*==?wide?h?" + "=00a" * 13 + "b?=", "a", [("k", "a" * 13 + "?")], (6, "long"), (6, "octets"))

    def test_without_the_shape(self):
        for content in ("x", "=?=", "=?", "x=?latin?h?a?=", "=?latin?h?a?=x", "*"):
            self.check(f"a; k*={content}", "a", [("k", content)], (6, "shape"))

    def test_quoted_ones(self):
        self.check("a; k*=\"x\"", "a", [("k", "x")], (6, "shape"))
        self.check("a; k*=\"=?latin?h?a?=\"", "a", [("k", "=?latin?h?a?=")], (6, "shape"))
        self.check("a; k*=\"=?x?h?a?=\"; l=y", "a", [("k", "=?x?h?a?="), ("l", "y")], (6, "shape"))
        self.check("a; k*=\"x", "a", [("k", "x")], (6, "quote"), (6, "shape"))

    def test_words_end_at_other_characters(self):
        self.check("a; k*==?latin?h?a?= ?=", "a", [("k", "a")], (20, "extra"))
        self.check("a; k*==?latin?h?a?=\"\"", "a", [("k", "a")], (19, "extra"))
        self.check("a; k*==?latin?h?a;?=", "a", [("k", "=?latin?h?a")], (6, "shape"), (18, "part"))


class Sections(Case):
    def test_in_any_order(self):
        for order in ((0, 1, 2), (0, 2, 1), (1, 0, 2), (1, 2, 0), (2, 0, 1), (2, 1, 0)):
            body = "a" + "".join(f"; k*{number}={'xyz'[number]}" for number in order)
            self.check(body, "a", [("k", "xyz")])

    def test_more_than_ten(self):
        numbers = list(range(30))
        for order in (numbers, numbers[::-1], numbers[15:] + numbers[:15]):
            body = "a" + "".join(f"; k*{number}=<{number}>" for number in order)
            self.check(body, "a", [("k", "".join(f"<{number}>" for number in numbers))])

    def test_of_all_forms(self):
        self.check("a; k*0=\"x \"; K*1*==?latin?h?=E9?=; k*2=; k*3=z", "a", [("k", Text("x ") + Text.of((233,)))],
                   (35, "part"), (41, "section"))
        self.check("a; k*0=\"\"; k*1=\"\"", "a", [("k", "")])

    def test_a_number_that_is_missing(self):
        self.check("a; k*0=x; k*2=z; k*3=w", "a", [("k", "x")], (10, "section"), (17, "section"))
        self.check("a; k*3=w; k*0=x; k*1=y", "a", [("k", "xy")], (3, "section"))
        self.check("a; k*1=x; k*2=y; l=z", "a", [("l", "z")], (3, "section"), (10, "section"))

    def test_a_number_that_stands_twice(self):
        self.check("a; k*0=x; k*0=y; k*1=z; k*1=w", "a", [("k", "xz")], (10, "double"), (24, "double"))
        self.check("a; k*2=x; k*2=y", "a", [], (3, "section"), (10, "double"))
        self.check("a; k*0=x; k*0*=y", "a", [("k", "x")], (10, "double"), (15, "shape"))

    def test_parts_without_a_number(self):
        self.check("a; k=x; k=y", "a", [("k", "x")], (8, "double"))
        self.check("a; k=x; K*0=y; k*1=z; k*=w", "a", [("k", "x")], (8, "double"), (15, "double"), (22, "double"),
                   (25, "shape"))
        self.check("a; k*0=x; k=y; k*1=z", "a", [("k", "xz")], (10, "double"))
        self.check("a; k*1=x; k=y", "a", [], (3, "section"), (10, "double"))

    def test_order_of_the_first_parts(self):
        self.check("a; l*1=b; k=x; l*0=a; m=y", "a", [("l", "ab"), ("k", "x"), ("m", "y")])
        self.check("a; l*1=b; k=x; m=y", "a", [("k", "x"), ("m", "y")], (3, "section"))
        self.check("a; l= ; k=x; l=y", "a", [("k", "x"), ("l", "y")], (3, "part"))

    def test_parts_that_are_left_out_are_no_first_parts(self):
        self.check("a; k*00=x; k=y", "a", [("k", "y")], (3, "part"))
        self.check("a; k*0=; k*0=y", "a", [("k", "y")], (3, "part"))

    def test_several_defects_at_one_position(self):
        self.check("a; k=x; k*0*=\"y", "a", [("k", "x")], (8, "double"), (13, "quote"), (13, "shape"))
        self.check("a b; ; k", "a", [], (1, "main"), (5, "empty"), (7, "part"))

    def test_order_of_the_defects(self):
        _, defects = read_typed("\"; \"x; k*2*=y z; k; k*2=; k*2*=\"; l=m")
        self.assertEqual(defects, tuple(sorted(defects)))
        self.assertEqual([word for _, word in defects],
                         ["main", "section", "shape", "extra", "part", "part", "double", "quote", "shape"])


if __name__ == "__main__":
    unittest.main()
