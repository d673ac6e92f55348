"""The parts of typed bodies: what they look like, and how a body is cut into them."""

from headerfold.encoded import has_shape, reading_of
from headerfold.marks import DIGITS, SMALL_LETTERS, consists_of, is_body
from headerfold.quoting import enclosed
from headerfold.texts import Text

_NOT_IN_VALUES = " ;\""
_KEY_LIMIT = 12
_DIGITS_LIMIT = 4


class Part:
    """A parameter, or a section of one, as it stands in a body; a number of None is that of no section."""

    def __init__(self, position, key, number, text):
        self.position = position
        self.key = key
        self.number = number
        self.text = text


def is_key(thing):
    """Whether this is a key."""
    return (consists_of(thing, SMALL_LETTERS + DIGITS + "-") and 1 <= len(thing) <= _KEY_LIMIT
            and thing[0] in SMALL_LETTERS)


def is_main(thing):
    """Whether this is a body of value marks that is not empty."""
    return is_body(thing) and 0 < len(thing) == end_of_values(thing, 0)


def end_of_values(marks, start):
    """The position behind as many value marks as there are from start on."""
    end = start
    while end < len(marks) and marks[end] not in _NOT_IN_VALUES:
        end = end + 1
    return end


def parts_cut(body):
    """The parts of a body, each a tuple of its first position, its marks and the position that ends it; and defects."""
    parts = []
    defects = []
    start = place = behind_quote = 0
    while place < len(body):
        if body[place] == "\"":
            _, behind_quote, has_end = enclosed(body, place)
            if not has_end:
                defects.append((place, "quote"))
            place = behind_quote
        else:
            if body[place] == ";":
                parts.append(_trimmed(body, start, place, behind_quote))
                start = place + 1
            place = place + 1
    parts.append(_trimmed(body, start, len(body), behind_quote))
    return parts, defects


def _trimmed(body, start, stop, behind_quote):
    """A part without the spaces at its ends; those within its last quoted string stay."""
    first = start
    while first < stop and body[first] == " ":
        first = first + 1
    end = stop
    while end > max(first, behind_quote) and body[end - 1] == " ":
        end = end - 1
    return first, body[first:end], stop


def part_read(position, marks):
    """The part that these marks are, or None if they are none, and the defects."""
    head, _, behind = marks.partition("=")
    named = _key_number_flag(head)
    start = len(head) + 1
    end = end_of_values(marks, start)
    is_quoted = behind.startswith("\"")
    # Only a quoted content can be empty. Without the sign there is none at all.
    if named is None or (end == start and not is_quoted):
        return None, [(position, "part")]
    key, number, has_flag = named
    if is_quoted:
        content, end, _ = enclosed(marks, start)
    else:
        content = marks[start:end]
    text, faults = _content_read(content, is_quoted, has_flag)
    defects = [(position + start, fault) for fault in faults]
    rest = marks[end:].lstrip(" ")
    if rest != "":
        defects.append((position + len(marks) - len(rest), "extra"))
    return Part(position, key, number, text), defects


def _key_number_flag(head):
    """What stands in front of the sign of a part: a key, a number or None, and whether there is a flag."""
    key, *rest = head.split("*")
    key = key.lower()
    has_flag = len(rest) > 0 and rest[-1] == ""
    if has_flag:
        rest = rest[:-1]
    if not is_key(key) or len(rest) > 1 or not all([_is_section(digits) for digits in rest]):
        return None
    return key, int(rest[0]) if len(rest) > 0 else None, has_flag


def _is_section(digits):
    """Whether this is the number of a section, without needless zeros."""
    if not 1 <= len(digits) <= _DIGITS_LIMIT or not consists_of(digits, DIGITS):
        return False
    return digits == "0" or digits[0] != "0"


def _content_read(content, is_quoted, has_flag):
    """The text for which a content stands, and the words of its defects."""
    if not has_flag:
        return Text(content), ()
    if is_quoted or not has_shape(content):
        return Text(content), ("shape",)
    text, faults = reading_of(content)
    return (Text(content) if text is None else text), faults
