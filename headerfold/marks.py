"""Marks, codes and bodies, and the strings that consist of them."""

from headerfold.errors import BadBody

MARKS = " !\"#$&'()*+,-./0123456789:;<=>?@ABCDEFGHIJKLMNOPQRSTUVWXYZ[\\]^_`abcdefghijklmnopqrstuvwxyz{|}~"
LETTERS = "ABCDEFGHIJKLMNOPQRSTUVWXYZabcdefghijklmnopqrstuvwxyz"
SMALL_LETTERS = "abcdefghijklmnopqrstuvwxyz"
DIGITS = "0123456789"
LETTERS_AND_DIGITS = "ABCDEFGHIJKLMNOPQRSTUVWXYZabcdefghijklmnopqrstuvwxyz0123456789"
NOT_IN_ATOMS = " ()<>,;:@\""

# The percent sign has this code; it is no mark.
_MISSING_CODE = 37
_LABEL_LIMIT = 20


def is_number(thing):
    """Whether this is an integer; a bool is none."""
    return isinstance(thing, int) and not isinstance(thing, bool)


def is_between(thing, low, high):
    """Whether this is an integer from low to high."""
    return is_number(thing) and low <= thing <= high


def consists_of(thing, marks):
    """Whether this is a string that has only these characters; the empty string is one."""
    return isinstance(thing, str) and all([mark in marks for mark in thing])


def is_body(thing):
    """Whether this is a string of marks."""
    return consists_of(thing, MARKS)


def is_raw(thing):
    """Whether this is a string of marks and newlines."""
    return consists_of(thing, MARKS + "\n")


def is_plain_code(thing):
    """Whether this is the code of a mark."""
    return is_between(thing, 32, 126) and thing != _MISSING_CODE


def is_code(thing):
    """Whether this is an integer that a text may have."""
    return is_plain_code(thing) or is_between(thing, 160, 65535)


def is_label(thing):
    """Whether this is the name of a header."""
    return consists_of(thing, LETTERS_AND_DIGITS + "-") and 1 <= len(thing) <= _LABEL_LIMIT and thing[0] in LETTERS


def is_atom(thing):
    """Whether this is a body that is not empty and has none of the marks that part tokens."""
    return is_body(thing) and thing != "" and not any([mark in NOT_IN_ATOMS for mark in thing])


def mark_of(code):
    """The mark of a plain code."""
    if code < _MISSING_CODE:
        return MARKS[code - 32]
    return MARKS[code - 33]


def unfolded(raw):
    """The body of a raw string, and a defect for each newline that was no fold."""
    if not is_raw(raw):
        raise BadBody(raw)
    lines = raw.split("\n")
    body = lines[0]
    defects = []
    for line in lines[1:]:
        if not line.startswith(" "):
            defects.append((len(body), "line"))
            body = body + " "
        body = body + line
    return body, tuple(defects)


def words_of(body):
    """The words of a body, each behind its position."""
    if not is_body(body):
        raise BadBody(body)
    position = 0
    for word in body.split(" "):
        if word != "":
            yield (position, word)
        position = position + len(word) + 1
