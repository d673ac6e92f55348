"""headerfold.errors: the families, and the fields of the classes."""

import inspect
import unittest

from headerfold import errors

FAMILIES = {
    "HeaderError": (ValueError, {
        "BadBody": "given", "BadText": "given", "BadCode": "place", "BadOctet": "place", "BadPayload": "place",
        "BadCharset": "given", "BadCoding": "given", "BadWidth": "given", "BadLabel": "given", "BadPiece": "place",
        "BadAddress": "given", "BadComment": "place", "BadEntry": "place", "BadMain": "given", "BadKey": "given",
        "BadParameter": "place", "BadDate": "given", "BadNumber": "given", "BadContent": "given",
        "BadHeader": "given", "BadKind": "given", "BadLine": "given", "BadChange": "place",
    }),
    "LetterError": (RuntimeError, {
        "Ended": "many", "Full": "limit", "NothingToUndo": "many", "NothingToRedo": "many",
    }),
    "AbsentError": (LookupError, {
        "NoCode": "given", "NoKey": "given", "NoHeader": "given",
    }),
}


def rows():
    """Each class with its family and its field."""
    for family, (_, fields) in FAMILIES.items():
        for name, field in fields.items():
            yield getattr(errors, name), getattr(errors, family), field


class Families(unittest.TestCase):
    def test_families_are_directly_under_pythons_errors(self):
        for name, (base, _) in FAMILIES.items():
            self.assertEqual(getattr(errors, name).__bases__, (base,))

    def test_other_classes_are_directly_under_their_family(self):
        for error, family, _ in rows():
            self.assertEqual(error.__bases__, (family,), error)

    def test_these_are_all_and_defined_here(self):
        found = {name: one for name, one in vars(errors).items() if inspect.isclass(one)}
        expected = set(FAMILIES) | {error.__name__ for error, _, _ in rows()}
        self.assertEqual(set(found), expected)
        self.assertEqual(len(expected), 33)
        for one in found.values():
            self.assertEqual(one.__module__, "headerfold.errors")


class Fields(unittest.TestCase):
    def test_by_position(self):
        for error, _, field in rows():
            thing = object()
            self.assertIs(getattr(error(thing), field), thing, error)

    def test_by_name(self):
        for error, _, field in rows():
            thing = ["any"]
            made = error(**{field: thing})
            self.assertIs(getattr(made, field), thing, error)
            self.assertEqual(vars(made), {field: thing})

    def test_none_is_a_value(self):
        for error, _, field in rows():
            self.assertIsNone(getattr(error(None), field))

    def test_exactly_one_argument(self):
        for error, _, field in rows():
            self.assertRaises(TypeError, error)
            self.assertRaises(TypeError, error, 1, 2)
            self.assertRaises(TypeError, error, **{field: 1, "other": 2})
            self.assertRaises(TypeError, error, other=1)

    def test_raised_and_caught_by_family(self):
        for error, family, field in rows():
            for wider in (error, family, family.__bases__[0]):
                with self.assertRaises(wider) as caught:
                    raise error(7)
                self.assertEqual(getattr(caught.exception, field), 7)

    def test_messages_show_nothing_that_was_given(self):
        class Hidden:
            def __repr__(self):
                raise AssertionError("shown")

        for error, _, _ in rows():
            message = str(error(Hidden()))
            self.assertTrue(message)
            self.assertEqual(message, str(error(10 ** 399)))


if __name__ == "__main__":
    unittest.main()
