"""The class Typed of headerfold.typed: point [25] and the interface."""

import inspect
import unittest

from headerfold.errors import BadKey, BadMain, BadParameter, BadText, NoKey
from headerfold.marks import MARKS
from headerfold.texts import Text
from headerfold.typed import Typed
from tests.support import Agreeable, check_error, wrong_objects

NO_MAINS = wrong_objects() + ["", " ", "a b", "a ", " a", "a;", ";", "\"", "a\"b", "\n", "a\nb", "\xe9", "\x7f", chr(37),
                              (), ("a",), 1, Text("a")]
NO_KEYS = wrong_objects() + ["", "1", "1a", "-", "-a", "a" * 13, "A", "aB", "a_b", "a b", "a*", "a=", "a.b", "\xe9", "a\n",
                             (), ("a",), 1, Text("a")]
KEYS = ["a", "z", "a1", "a-", "a-b", "a--", "abcdefghijkl", "z23456789012", "a" * 12]
A, B, C = Text("x"), Text(""), Text.of((233, 32))


def contents_of(typed):
    return typed.main, typed.parameters


class Making(unittest.TestCase):
    def test_interface(self):
        parameters = inspect.signature(Typed).parameters
        self.assertEqual([(one.name, one.default) for one in parameters.values()],
                         [("main", inspect.Parameter.empty), ("parameters", ())])
        for name, kind in {"main": property, "parameters": property, "key_names": property, "of": classmethod}.items():
            self.assertIsInstance(vars(Typed)[name], kind)
        for name in ("put", "without", "__getitem__", "__contains__", "__len__", "__eq__"):
            self.assertIn(name, vars(Typed))
        self.assertEqual(Typed.__module__, "headerfold.typed")

    def test_contents(self):
        self.assertEqual(contents_of(Typed("a")), ("a", ()))
        self.assertEqual(contents_of(Typed("a/b", (("k", A),))), ("a/b", (("k", A),)))
        typed = Typed(parameters=(("k", A), ("a", B), ("k2", C)), main="x=y")
        self.assertEqual(contents_of(typed), ("x=y", (("k", A), ("a", B), ("k2", C))))
        self.assertEqual(typed.key_names, ("k", "a", "k2"))
        self.assertEqual([one.__class__ for one in (typed.parameters, typed.key_names)], [tuple, tuple])
        self.assertEqual(Typed("a").key_names, ())

    def test_mains(self):
        marks = "".join(mark for mark in MARKS if mark not in " ;\"")
        for main in ("a", "a/b", "=", "=?x?=", "(a)", ",:<>@", "\\", marks, "a" * 5000):
            self.assertEqual(Typed(main).main, main)
        for mark in marks:
            self.assertEqual(Typed(mark).main, mark)

    def test_no_main(self):
        for main in NO_MAINS:
            check_error(self, BadMain, "given", main, Typed, main)
            check_error(self, BadMain, "given", main, Typed, main, None)
            check_error(self, BadMain, "given", main, Typed, main=main)
            check_error(self, BadMain, "given", main, Typed.of, main)
            check_error(self, BadMain, "given", main, Typed.of, main, K=None)

    def test_keys(self):
        for key in KEYS:
            self.assertEqual(Typed("a", ((key, A),)).key_names, (key,))
        many = tuple((f"k{place}", A) for place in range(500))
        self.assertEqual(Typed("a", many).parameters, many)

    def test_no_tuple_of_parameters(self):
        for wrong in wrong_objects() + ["", "a", 0, [("k", A)], {"k": A}, Text("a"), Typed("a")]:
            check_error(self, BadParameter, "place", None, Typed, "a", wrong)

    def test_first_wrong_parameter(self):
        right = (("k", A), ("l", B))
        wrong_pairs = wrong_objects() + ["kt", (), ("m",), ("m", A, A), ["m", A], ("m", "x"), ("m", None), (A, "m"),
                                         ("k", A), ("l", A), 1, A]
        wrong_pairs += [(key, A) for key in NO_KEYS] + [("m", text) for text in wrong_objects()]
        for wrong in wrong_pairs:
            check_error(self, BadParameter, "place", 2, Typed, "a", (*right, wrong))
            check_error(self, BadParameter, "place", 2, Typed, "a", (*right, wrong, None, ("k", A)))
        check_error(self, BadParameter, "place", 0, Typed, "a", (("K", A), *right))
        check_error(self, BadParameter, "place", 1, Typed, "a", (("k", A), ("k", A)))


class Of(unittest.TestCase):
    def test_by_name(self):
        self.assertEqual(Typed.of("a"), Typed("a"))
        self.assertEqual(Typed.of("a", k="x y", b="", c="=?x?="),
                         Typed("a", (("k", Text("x y")), ("b", Text()), ("c", Text("=?x?=")))))
        self.assertEqual(Typed.of(k="x", main="m").parameters, (("k", A),))
        self.assertEqual(Typed.of("a", z="1", a="2", m="3").key_names, ("z", "a", "m"))
        self.assertEqual(Typed.of("a", **{"a-b": "x"}), Typed("a", (("a-b", A),)))
        self.assertEqual(Typed.of("a", parameters="x", key="y", texts="z", body="w").key_names,
                         ("parameters", "key", "texts", "body"))

    def test_errors_in_the_order_of_the_call(self):
        for key in [one for one in NO_KEYS if one.__class__ is str]:
            found = self.error_of(**{"a": "x", key: None, "b": None})
            self.assertEqual((found.__class__, found.given), (BadKey, key))
        for body in wrong_objects() + ["\n", "\xe9", chr(37), (), 1, A]:
            check_error(self, BadText, "given", body, Typed.of, "m", a="x", b=body, C="x")
            check_error(self, BadText, "given", body, Typed.of, "m", b=body, a=None)

    def error_of(self, **texts):
        try:
            Typed.of("m", **texts)
        except (BadKey, BadText) as error:
            return error
        return None


class Asking(unittest.TestCase):
    def setUp(self):
        self.typed = Typed("m", (("k", A), ("b", B), ("c-1", C)))

    def test_texts_of_keys(self):
        self.assertEqual([self.typed[key] for key in ("k", "b", "c-1")], [A, B, C])

    def test_no_such_key(self):
        for key in NO_KEYS + ["x", "K", "m", "main", 0, 1, -1, ("k", A), "k "]:
            check_error(self, NoKey, "given", key, self.typed.__getitem__, key)
            check_error(self, NoKey, "given", key, self.typed.without, key)
            self.assertIs(key in self.typed, False)
        with self.assertRaises(NoKey):
            Typed("k")["k"]

    def test_keys_that_are_there(self):
        for key in ("k", "b", "c-1"):
            self.assertIs(key in self.typed, True)
            self.assertIs(key not in self.typed, False)

    def test_length(self):
        self.assertEqual(len(self.typed), 3)
        self.assertEqual(len(Typed("m")), 0)

    def test_not_iterable(self):
        for call in (list, tuple, iter, sorted):
            with self.assertRaises(TypeError):
                call(self.typed)
        with self.assertRaises(TypeError):
            list(Typed("m"))

    def test_equality(self):
        self.assertIs(self.typed == Typed("m", (("k", A), ("b", B), ("c-1", C))), True)
        self.assertIs(self.typed != Typed("m", (("k", A), ("b", B), ("c-1", C))), False)
        for other in (Typed("m"), Typed("M", self.typed.parameters), Typed("m", (("k", A), ("b", B))),
                      Typed("m", (("k", A), ("b", A), ("c-1", C))), Typed("m", (("b", B), ("k", A), ("c-1", C)))):
            self.assertIs(self.typed == other, False)
            self.assertIs(self.typed != other, True)
        for other in [one for one in wrong_objects() if one.__class__ is not Agreeable] + ["m", ("m", ())]:
            self.assertIs(Typed.__eq__(self.typed, other), False)


class Others(unittest.TestCase):
    def setUp(self):
        self.typed = Typed("m", (("k", A), ("b", B)))

    def tearDown(self):
        self.assertEqual(contents_of(self.typed), ("m", (("k", A), ("b", B))))

    def test_put(self):
        self.assertEqual(contents_of(self.typed.put("k", C)), ("m", (("k", C), ("b", B))))
        self.assertEqual(contents_of(self.typed.put("b", C)), ("m", (("k", A), ("b", C))))
        self.assertEqual(contents_of(self.typed.put(text=C, key="x")), ("m", (("k", A), ("b", B), ("x", C))))
        self.assertEqual(self.typed.put("k", A), self.typed)
        self.assertEqual(Typed("m").put("a", A), Typed.of("m", a="x"))
        self.assertIs(self.typed.put("k", C).__class__, Typed)

    def test_put_of_what_is_wrong(self):
        for key in NO_KEYS:
            check_error(self, BadKey, "given", key, self.typed.put, key, A)
            check_error(self, BadKey, "given", key, self.typed.put, key, None)
        for text in wrong_objects() + ["x", "", (), 1, Typed("m")]:
            for key in ("k", "x"):
                check_error(self, BadText, "given", text, self.typed.put, key, text)

    def test_without(self):
        self.assertEqual(contents_of(self.typed.without("k")), ("m", (("b", B),)))
        self.assertEqual(contents_of(self.typed.without(key="b")), ("m", (("k", A),)))
        self.assertEqual(self.typed.without("k").without("b"), Typed("m"))
        check_error(self, NoKey, "given", "k", self.typed.without("k").without, "k")


if __name__ == "__main__":
    unittest.main()
