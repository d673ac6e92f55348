"""What the tests share: wrong objects, and a check of an error and its field."""


class Agreeable:
    """An own object that says yes to every question."""

    def __eq__(self, other):
        return True

    def __lt__(self, other):
        return True

    __le__ = __gt__ = __ge__ = __contains__ = __lt__

    def __hash__(self):
        return 0

    def __bool__(self):
        return True

    def __len__(self):
        return 1

    def __getitem__(self, at):
        if at == 0:
            return "a"
        raise IndexError(at)

    def __index__(self):
        return 40

    def __int__(self):
        return 40

    def __str__(self):
        return "h"


class Dumb:
    """An own object that answers no question, not even how it looks."""

    __hash__ = None

    def __eq__(self, other):
        raise AssertionError("compared")

    def __bool__(self):
        raise AssertionError("tested")

    def __repr__(self):
        raise AssertionError("shown")


def wrong_objects():
    """Objects of kinds that are no strings, no integers, no tuples and no texts."""
    return [
        None, True, False, 65.0, 40.5, 65j, b"", b"a", b"h", bytearray(b"a"),
        [], [65], ["a"], [32], {}, {65: 1}, {"a": 1}, set(), {65}, frozenset({65}), range(65, 70),
        slice(0, 1), iter((65, 66)), (one for one in "ab"), len, str, int, object(), Agreeable(), Dumb(),
    ]


def check_error(case, error, field, expected, call, *values, **named):
    """The call raises this very class, and the field is the very object, or the same place."""
    try:
        call(*values, **named)
    except Exception as caught:
        case.assertIs(caught.__class__, error)
        case.assertEqual(list(vars(caught)), [field])
        found = getattr(caught, field)
        if expected.__class__ is int:
            case.assertIs(found.__class__, int)
            case.assertEqual(found, expected)
        else:
            case.assertIs(found, expected)
    else:
        case.fail("no error was raised")
