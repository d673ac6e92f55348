"""headerfold.trials: the interface."""

import inspect
import itertools
import unittest

from headerfold.errors import (BadChange, BadContent, BadHeader, BadNumber, Full, HeaderError, NoHeader, NothingToRedo,
                               NothingToUndo)
from headerfold.headers import PlainHeader
from headerfold.letters import Letter
from headerfold.texts import Text
from headerfold.trials import Trial, apply_all, would
from tests.support import check_error, wrong_objects
from tests.test_letters import A, A2, B, C, many_headers
from tests.test_letters_changes import stand_of

NEW = Text("new")
RIGHT = (("add", A2), ("put", 0, A2), ("take", 1), ("move", 0, 1), ("set", "a", NEW), ("undo",), ("redo",))
# Each is impossible for the letter of two headers below, with this error and field.
IMPOSSIBLE = (
    (("add", None), BadHeader, "given", None), (("put", 9, A), BadNumber, "given", 9), (("put", 0, 7), BadHeader, "given", 7),
    (("put", -1, None), BadNumber, "given", -1), (("take", 9), BadNumber, "given", 9), (("take", True), BadNumber, "given", True),
    (("move", 9, 0), BadNumber, "given", 9), (("move", 0, 9), BadNumber, "given", 9), (("set", "X", NEW), NoHeader, "given", "X"),
    (("set", "a", None), BadContent, "given", None), (("set", None, None), NoHeader, "given", None))
NO_CHANGES = wrong_objects() + [
    (), "undo", "add", ["undo"], ["add", A], ("add",), ("add", A, A), ("put", 0), ("put", 0, A, A), ("take",), ("take", 0, 0),
    ("move", 0), ("move", 0, 0, 0), ("set", "a"), ("set", "a", NEW, 1), ("undo", 1), ("redo", None), ("Add", A), ("",),
    ("take_out", 0), ("put_at", 0, A), ("set_content", "a", NEW), (None,), (None, 0), (0, "take"), (("take",), 0),
    (b"undo",), ("written",), A, 0, Text("undo")]
NO_CHANGES += [(one,) for one in wrong_objects()] + [(one, 0) for one in wrong_objects()]


def sample_letter():
    """Two headers, one change that can be undone and one that can be made again."""
    letter = Letter(A)
    letter.add(B)
    letter.add(C)
    letter.undo()
    return letter


STAND = ((A, B), 1, 1)


class Interface(unittest.TestCase):
    def test_names_and_parameters(self):
        for thing, parameters in ((Trial, "(letter)"), (apply_all, "(letter, changes)"), (would, "(letter, changes)")):
            self.assertEqual(thing.__module__, "headerfold.trials")
            self.assertEqual(str(inspect.signature(thing)), parameters)

    def test_example(self):
        letter = Letter.read("To: a@b\nSubject: hi\n there\n\nBody")
        letter.add(PlainHeader("X", Text("y")))
        found = would(letter, (("take", 0), ("undo",), ("undo",)))
        self.assertEqual((len(letter), "subject" in letter, len(found), letter.undoable), (3, True, 2, 1))

    def test_by_name(self):
        letter = sample_letter()
        self.assertEqual(would(changes=(("take", 0),), letter=letter), (B,))
        self.assertIsNone(apply_all(changes=(("take", 0),), letter=letter))
        self.assertEqual(letter.all_headers, (B,))
        with Trial(letter=letter) as held:
            self.assertIs(held, letter)


class Blocks(unittest.TestCase):
    def test_without_an_exception(self):
        letter = sample_letter()
        with Trial(letter) as held:
            self.assertIs(held, letter)
            held.take_out(0)
            letter.add(A2)
        self.assertEqual(stand_of(letter), ((B, A2), 3, 0))

    def test_an_exception_that_leaves(self):
        for error in (ValueError, BadNumber, KeyError, KeyboardInterrupt, GeneratorExit, SystemExit, StopIteration):
            letter = sample_letter()
            raised = error("why")
            with self.assertRaises(error) as caught:
                with Trial(letter) as held:
                    held.take_out(0)
                    held.add(A2)
                    held.undo()
                    raise raised
            self.assertIs(caught.exception, raised)
            self.assertEqual(stand_of(letter), STAND)
            letter.redo()
            self.assertEqual(stand_of(letter), ((A, B, C), 2, 0))

    def test_an_error_of_a_change(self):
        letter = sample_letter()
        with self.assertRaises(BadNumber):
            with Trial(letter) as held:
                held.set_content("a", NEW)
                held.take_out(2)
        self.assertEqual(stand_of(letter), STAND)

    def test_an_exception_that_does_not_leave(self):
        letter = sample_letter()
        with Trial(letter) as held:
            held.take_out(0)
            try:
                held.take_out(5)
            except HeaderError:
                held.take_out(0)
        self.assertEqual(stand_of(letter), ((), 3, 0))

    def test_changes_that_were_forgotten_come_back(self):
        letter = Letter()
        for header in many_headers(40):
            letter.add(header)
        for _ in range(5):
            letter.undo()
        before = stand_of(letter)
        with self.assertRaises(ValueError):
            with Trial(letter):
                for header in many_headers(40):
                    letter.add(header)
                raise ValueError
        self.assertEqual(stand_of(letter), before)
        for many in range(36, 41):
            letter.redo()
            self.assertEqual(letter.all_headers, tuple(many_headers(many)))

    def test_the_beginning_of_the_block_counts(self):
        letter = sample_letter()
        trial = Trial(letter)
        letter.add(A2)
        with self.assertRaises(ValueError):
            with trial:
                letter.take_out(0)
                raise ValueError
        self.assertEqual(stand_of(letter), ((A, B, A2), 2, 0))

    def test_one_trial_for_two_blocks(self):
        letter = sample_letter()
        trial = Trial(letter)
        with trial:
            letter.add(A2)
        with self.assertRaises(ValueError):
            with trial:
                letter.take_out(0)
                raise ValueError
        self.assertEqual(stand_of(letter), ((A, B, A2), 2, 0))

    def check_nested(self, outer, inner, letter):
        """Behind the inner block the letter is as it was at its beginning, and so it is behind the outer one."""
        with self.assertRaises(KeyError):
            with outer:
                letter.add(A2)
                with self.assertRaises(ValueError):
                    with inner:
                        letter.take_out(0)
                        raise ValueError
                self.assertEqual(stand_of(letter), ((A, B, A2), 2, 0))
                with inner:
                    letter.take_out(0)
                self.assertEqual(stand_of(letter), ((B, A2), 3, 0))
                raise KeyError
        self.assertEqual(stand_of(letter), STAND)

    def test_nested_trials(self):
        letter = sample_letter()
        self.check_nested(Trial(letter), Trial(letter), letter)
        trial = Trial(letter)
        self.check_nested(trial, trial, letter)

    def test_one_exception_that_leaves_both(self):
        letter = sample_letter()
        with self.assertRaises(ValueError):
            with Trial(letter):
                letter.add(A2)
                with Trial(letter):
                    letter.take_out(0)
                    raise ValueError
        self.assertEqual(stand_of(letter), STAND)

    def test_trials_of_two_letters(self):
        one, other = sample_letter(), sample_letter()
        with Trial(one) as held:
            with self.assertRaises(ValueError):
                with Trial(other):
                    held.take_out(0)
                    other.take_out(1)
                    raise ValueError
        self.assertEqual(stand_of(one), ((B,), 2, 0))
        self.assertEqual(stand_of(other), STAND)


class ApplyAll(unittest.TestCase):
    def check(self, changes, *stand):
        letter = sample_letter()
        self.assertIsNone(apply_all(letter, changes))
        self.assertEqual(stand_of(letter), stand)
        letter = sample_letter()
        found = would(letter, changes)
        self.assertIs(found.__class__, tuple)
        self.assertEqual(found, stand[0])
        self.assertEqual(stand_of(letter), STAND)

    def test_each_change(self):
        self.check((), *STAND)
        self.check((("add", C),), (A, B, C), 2, 0)
        self.check((("put", 1, C),), (A, C), 2, 0)
        self.check((("take", 0),), (B,), 2, 0)
        self.check((("move", 0, 1),), (B, A), 2, 0)
        self.check((("set", "A", NEW),), (PlainHeader("a", NEW), B), 2, 0)
        self.check((("undo",),), (A,), 0, 2)
        self.check((("redo",),), (A, B, C), 2, 0)

    def test_rows_of_changes(self):
        self.check((("take", 0), ("take", 0), ("add", C), ("add", A)), (C, A), 5, 0)
        self.check((("undo",), ("redo",), ("redo",), ("undo",)), *STAND)
        self.check((("undo",), ("add", A2), ("undo",)), (A,), 0, 1)
        self.check((("move", 1, 0), ("set", "b", B.content), ("put", 1, A2), ("undo",)), (B, A), 3, 1)
        self.check(tuple(("add", header) for header in many_headers(98)), (A, B, *many_headers(98)), 30, 0)

    def test_one_impossible_change_at_any_place(self):
        for change, error, field, expected in IMPOSSIBLE:
            for front, behind in ((0, 0), (0, 2), (1, 0), (1, 3), (3, 1), (5, 0)):
                changes = (("set", "a", NEW),) * front + (change,) + (("add", A2),) * behind
                for call in (apply_all, would):
                    letter = sample_letter()
                    check_error(self, error, field, expected, call, letter, changes)
                    self.assertEqual(stand_of(letter), STAND)

    def test_the_first_error_comes_out(self):
        for one, other in itertools.product(IMPOSSIBLE, repeat=2):
            letter = sample_letter()
            check_error(self, *one[1:], apply_all, letter, (("add", A2), one[0], other[0]))
            self.assertEqual(stand_of(letter), STAND)

    def test_undo_and_redo_that_are_impossible(self):
        for changes, error in (((("undo",), ("undo",)), NothingToUndo), ((("redo",), ("redo",)), NothingToRedo),
                               ((("add", A2), ("redo",)), NothingToRedo),
                               ((("take", 0), ("undo",), ("undo",), ("undo",)), NothingToUndo)):
            for call in (apply_all, would):
                letter = sample_letter()
                check_error(self, error, "many", 0, call, letter, changes)
                self.assertEqual(stand_of(letter), STAND)

    def test_a_full_letter(self):
        letter = Letter(*many_headers(99))
        for call in (apply_all, would):
            check_error(self, Full, "limit", 100, call, letter, (("add", A), ("add", B)))
            self.assertEqual(stand_of(letter), (tuple(many_headers(99)), 0, 0))
        apply_all(letter, (("add", A), ("take", 0), ("add", B)))
        self.assertEqual(len(letter), 100)

    def test_changes_that_are_none(self):
        for wrong in NO_CHANGES:
            for place, changes in enumerate(((wrong,), (("take", 0), wrong), (*RIGHT[:2], wrong, None, ("take", 99)),
                                             (("take", 99), ("undo",), ("undo",), wrong))):
                for call in (apply_all, would):
                    letter = sample_letter()
                    check_error(self, BadChange, "place", place, call, letter, changes)
                    self.assertEqual(stand_of(letter), STAND)

    def test_no_tuple_of_changes(self):
        for wrong in wrong_objects() + ["", "undo", 0, [("undo",)], {("undo",): 1}, Text("undo")]:
            for call in (apply_all, would):
                letter = sample_letter()
                check_error(self, BadChange, "place", None, call, letter, wrong)
                self.assertEqual(stand_of(letter), STAND)

    def test_against_methods(self):
        for changes in itertools.product(RIGHT, repeat=3):
            letter, other = sample_letter(), sample_letter()
            error = None
            try:
                for change in changes:
                    self.make(other, change)
            except (HeaderError, NothingToRedo, NothingToUndo, NoHeader) as caught:
                error = caught.__class__
            if error is None:
                expected = other.all_headers
                self.assertEqual(would(letter, changes), expected)
                apply_all(letter, changes)
                self.assertEqual(stand_of(letter), stand_of(other))
            else:
                for call in (apply_all, would):
                    with self.assertRaises(error):
                        call(letter, changes)
                    self.assertEqual(stand_of(letter), STAND)

    def make(self, letter, change):
        calls = {"add": letter.add, "put": letter.put_at, "take": letter.take_out, "move": letter.move,
                 "set": letter.set_content, "undo": letter.undo, "redo": letter.redo}
        calls[change[0]](*change[1:])

    def test_within_a_trial(self):
        letter = sample_letter()
        with self.assertRaises(ValueError):
            with Trial(letter):
                apply_all(letter, RIGHT[:2])
                self.assertEqual(len(letter), 3)
                with self.assertRaises(BadNumber):
                    apply_all(letter, (("take", 0), ("take", 9)))
                self.assertEqual(len(letter), 3)
                raise ValueError
        self.assertEqual(stand_of(letter), STAND)


if __name__ == "__main__":
    unittest.main()
