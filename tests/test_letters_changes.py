"""The changes of letters in headerfold.letters, undo and redo, and twins."""

import random
import unittest

from headerfold.errors import BadContent, BadHeader, BadNumber, Full, NoHeader, NothingToRedo, NothingToUndo
from headerfold.headers import MomentHeader, PeopleHeader, PlainHeader, TypedHeader
from headerfold.letters import Letter
from headerfold.moments import Moment
from headerfold.texts import Text
from headerfold.typed import Typed
from tests.support import check_error, wrong_objects
from tests.test_headers import NO_LABELS
from tests.test_letters import A, A2, B, C, NO_HEADERS, many_headers

NO_PLACES = wrong_objects() + [-1, 10 ** 399, -10 ** 399, "a", "0", (), (0,), Text("a")]


def stand_of(letter):
    return letter.all_headers, letter.undoable, letter.redoable


class Changes(unittest.TestCase):
    def setUp(self):
        self.letter = Letter(A, B, C)

    def check(self, answer, *headers):
        self.assertIsNone(answer)
        self.assertEqual(self.letter.all_headers, headers)
        self.assertEqual((self.letter.undoable, self.letter.redoable), (1, 0))
        self.letter.undo()
        self.assertEqual(stand_of(self.letter), ((A, B, C), 0, 1))
        self.letter.redo()
        self.assertEqual(stand_of(self.letter), (headers, 1, 0))

    def check_unchanged(self, error, field, expected, call, *values):
        before = stand_of(self.letter)
        check_error(self, error, field, expected, call, *values)
        self.assertEqual(stand_of(self.letter), before)

    def test_add(self):
        self.check(self.letter.add(A2), A, B, C, A2)

    def test_add_by_name(self):
        self.check(self.letter.add(header=A), A, B, C, A)

    def test_put_at_each_place(self):
        for place, headers in enumerate(((A2, B, C), (A, A2, C), (A, B, A2))):
            self.letter = Letter(A, B, C)
            self.check(self.letter.put_at(place, A2), *headers)
        self.letter = Letter(A, B, C)
        self.check(self.letter.put_at(header=A2, place=0), A2, B, C)

    def test_take_out_each_place(self):
        for place, headers in enumerate(((B, C), (A, C), (A, B))):
            self.letter = Letter(A, B, C)
            self.check(self.letter.take_out(place), *headers)
        self.letter = Letter(A, B, C)
        self.check(self.letter.take_out(place=2), A, B)

    def test_move_from_each_place_to_each(self):
        for place in range(3):
            for goal in range(3):
                self.letter = Letter(A, B, C)
                expected = [A, B, C]
                expected.insert(goal, expected.pop(place))
                self.check(self.letter.move(place, goal), *expected)
        self.letter = Letter(A, B, C)
        self.check(self.letter.move(goal=2, place=0), B, C, A)

    def test_set_content(self):
        self.check(self.letter.set_content("A", Text("new")), PlainHeader("a", Text("new")), B, C)
        self.assertEqual(self.letter[0].name, "a")

    def test_set_content_of_the_first_one(self):
        self.letter = Letter(C, A2, A, B)
        self.assertIsNone(self.letter.set_content(content=Text("new"), name="a"))
        self.assertEqual(self.letter.all_headers, (C, PlainHeader("A", Text("new")), A, B))
        self.letter.set_content("c", Moment(1, 1, 1))
        self.assertEqual(self.letter[0], MomentHeader("c", Moment(1, 1, 1)))

    def test_set_content_on_a_header_with_defects(self):
        letter = Letter.read("Content-Form: a b\nX: =?x?=")
        letter.set_content("content-form", Typed("a"))
        self.assertEqual((letter[0].defects, letter[1].defects), ((), ((0, "parts"),)))
        self.assertIs(letter[0].__class__, TypedHeader)
        letter.undo()
        self.assertEqual(letter[0].defects, ((1, "main"),))

    def test_wrong_headers(self):
        for wrong in NO_HEADERS:
            self.check_unchanged(BadHeader, "given", wrong, self.letter.add, wrong)
            self.check_unchanged(BadHeader, "given", wrong, self.letter.put_at, 0, wrong)

    def test_wrong_places(self):
        for wrong in NO_PLACES + [3, 4]:
            self.check_unchanged(BadNumber, "given", wrong, self.letter.put_at, wrong, A)
            self.check_unchanged(BadNumber, "given", wrong, self.letter.put_at, wrong, None)
            self.check_unchanged(BadNumber, "given", wrong, self.letter.take_out, wrong)
            self.check_unchanged(BadNumber, "given", wrong, self.letter.move, wrong, 0)
            self.check_unchanged(BadNumber, "given", wrong, self.letter.move, wrong, -7)
            self.check_unchanged(BadNumber, "given", wrong, self.letter.move, 0, wrong)

    def test_places_of_an_empty_letter(self):
        self.letter = Letter()
        self.check_unchanged(BadNumber, "given", 0, self.letter.put_at, 0, A)
        self.check_unchanged(BadNumber, "given", 0, self.letter.take_out, 0)
        self.check_unchanged(BadNumber, "given", 0, self.letter.move, 0, 0)

    def test_wrong_names_and_contents(self):
        for wrong in NO_LABELS + ["X", "ab", "a:", A]:
            self.check_unchanged(NoHeader, "given", wrong, self.letter.set_content, wrong, Text("x"))
            self.check_unchanged(NoHeader, "given", wrong, self.letter.set_content, wrong, 7)
        for name, contents in (("a", (None, (), Typed("m"), "x")), ("b", (None, (), Text("x"), "x")),
                               ("C", ((), Text("x"), Typed("m"), 0))):
            for wrong in contents:
                self.check_unchanged(BadContent, "given", wrong, self.letter.set_content, name, wrong)

    def test_at_most_a_hundred(self):
        self.letter = Letter(*many_headers(99))
        self.letter.add(A)
        self.assertEqual(len(self.letter), 100)
        self.check_unchanged(Full, "limit", 100, self.letter.add, B)
        self.check_unchanged(BadHeader, "given", None, self.letter.add, None)
        self.letter.put_at(99, B)
        self.letter.move(99, 0)
        self.assertEqual((len(self.letter), self.letter[0]), (100, B))
        self.letter.take_out(50)
        self.letter.add(C)
        self.check_unchanged(Full, "limit", 100, self.letter.add, C)

    def test_changes_that_change_nothing(self):
        for place, call in enumerate((lambda: self.letter.put_at(0, A), lambda: self.letter.move(1, 1),
                                      lambda: self.letter.set_content("a", Text("x")))):
            call()
            self.assertEqual(stand_of(self.letter), ((A, B, C), place + 1, 0))

    def test_headers_that_were_asked_for_stay(self):
        before = self.letter.all_headers
        self.letter.take_out(0)
        self.assertEqual(before, (A, B, C))


class UndoAndRedo(unittest.TestCase):
    def test_nothing_to_do(self):
        letter = Letter(A)
        check_error(self, NothingToUndo, "many", 0, letter.undo)
        check_error(self, NothingToRedo, "many", 0, letter.redo)
        letter.add(B)
        check_error(self, NothingToRedo, "many", 0, letter.redo)
        self.assertIsNone(letter.undo())
        check_error(self, NothingToUndo, "many", 0, letter.undo)
        self.assertIsNone(letter.redo())
        check_error(self, NothingToRedo, "many", 0, letter.redo)
        self.assertEqual(stand_of(letter), ((A, B), 1, 0))

    def test_a_new_change_forgets(self):
        letter = Letter()
        for header in (A, B, C):
            letter.add(header)
        letter.undo()
        letter.undo()
        self.assertEqual(stand_of(letter), ((A,), 1, 2))
        letter.add(A2)
        self.assertEqual(stand_of(letter), ((A, A2), 2, 0))
        check_error(self, NothingToRedo, "many", 0, letter.redo)
        letter.undo()
        letter.undo()
        self.assertEqual(stand_of(letter), ((), 0, 2))

    def test_a_change_that_fails_forgets_nothing(self):
        letter = Letter(A)
        letter.add(B)
        letter.undo()
        check_error(self, BadNumber, "given", 1, letter.take_out, 1)
        self.assertEqual(stand_of(letter), ((A,), 0, 1))
        letter.redo()
        self.assertEqual(stand_of(letter), ((A, B), 1, 0))

    def test_more_than_thirty(self):
        headers = many_headers(75)
        for many in (29, 30, 31, 32, 75):
            letter = Letter()
            for header in headers[:many]:
                letter.add(header)
            kept = min(many, 30)
            self.assertEqual((letter.undoable, letter.redoable), (kept, 0))
            for step in range(1, kept + 1):
                letter.undo()
                self.assertEqual(stand_of(letter), (tuple(headers[:many - step]), kept - step, step))
            check_error(self, NothingToUndo, "many", 0, letter.undo)
            for step in range(1, kept + 1):
                letter.redo()
                self.assertEqual(stand_of(letter), (tuple(headers[:many - kept + step]), step, kept - step))
            check_error(self, NothingToRedo, "many", 0, letter.redo)
            letter.add(A)
            self.assertEqual(letter.undoable, min(kept + 1, 30))

    def test_against_a_list_of_stands(self):
        chance = random.Random(7)
        letter, now, past, future = Letter(), [], [], []
        for _ in range(3000):
            if past and (chance.random() < 0.3 or len(now) == 100):
                letter.undo()
                future.append(now)
                now = past.pop()
            elif future and chance.random() < 0.6:
                letter.redo()
                past.append(now)
                now = future.pop()
            else:
                past, future = (past + [now])[-30:], []
                now = self.changed(letter, list(now), chance)
            self.assertEqual(stand_of(letter), (tuple(now), len(past), len(future)))

    def changed(self, letter, now, chance):
        """Makes a change, also in the list; returns this."""
        header = PlainHeader(chance.choice("abc"), Text(chance.choice("xyz")))
        word = chance.choice(("add", "put", "take", "move", "set")) if now else "add"
        place, goal = chance.randrange(max(1, len(now))), chance.randrange(max(1, len(now)))
        if word == "add":
            letter.add(header)
            now.append(header)
        elif word == "put":
            letter.put_at(place, header)
            now[place] = header
        elif word == "take":
            letter.take_out(place)
            del now[place]
        elif word == "move":
            letter.move(place, goal)
            now.insert(goal, now.pop(place))
        else:
            name = now[place].name
            letter.set_content(name.upper(), Text("new"))
            first = [one.name for one in now].index(name)
            now[first] = PlainHeader(name, Text("new"))
        return now


class Twins(unittest.TestCase):
    def setUp(self):
        self.letter = Letter(A)
        self.letter.add(B)
        self.letter.add(C)
        self.letter.undo()

    def test_same_headers_and_changes(self):
        twin = self.letter.twin()
        self.assertIs(twin.__class__, Letter)
        self.assertEqual(twin, self.letter)
        self.assertEqual(stand_of(twin), ((A, B), 1, 1))
        twin.redo()
        self.assertEqual(stand_of(twin), ((A, B, C), 2, 0))
        self.assertEqual(stand_of(self.letter), ((A, B), 1, 1))

    def test_led_on_apart(self):
        twin = self.letter.twin()
        self.letter.undo()
        twin.add(A2)
        self.assertEqual(stand_of(self.letter), ((A,), 0, 2))
        self.assertEqual(stand_of(twin), ((A, B, A2), 2, 0))
        twin.undo()
        twin.undo()
        self.letter.redo()
        self.letter.redo()
        self.assertEqual(stand_of(self.letter), ((A, B, C), 2, 0))
        self.assertEqual(stand_of(twin), ((A,), 0, 2))

    def test_defects_stay(self):
        letter = Letter.read("To: a")
        self.assertEqual(list(letter.twin().faults()), [(0, 0, "address")])
        self.assertIs(letter.twin()[0].__class__, PeopleHeader)

    def test_twins_of_twins(self):
        twin = self.letter.twin().twin()
        self.assertEqual(stand_of(twin), ((A, B), 1, 1))
        self.assertEqual(stand_of(Letter().twin()), ((), 0, 0))


if __name__ == "__main__":
    unittest.main()
