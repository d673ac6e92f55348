"""Texts: sequences of codes that never change."""

from headerfold.errors import BadCode, BadNumber, BadText, NoCode
from headerfold.marks import is_between, is_body, is_code, is_plain_code, mark_of

_SPACE = 32


class Text:
    """A sequence of codes."""

    def __init__(self, marks=""):
        if not is_body(marks):
            raise BadText(marks)
        self._codes = tuple([ord(mark) for mark in marks])

    @classmethod
    def of(cls, codes):
        """The text of a tuple of codes."""
        if not isinstance(codes, tuple):
            raise BadCode(None)
        for place, code in enumerate(codes):
            if not is_code(code):
                raise BadCode(place)
        return _text_with(codes)

    @staticmethod
    def joined(texts):
        """The texts of a tuple, with a code 32 between neighbors."""
        if not isinstance(texts, tuple) or not all([isinstance(text, Text) for text in texts]):
            raise BadText(texts)
        codes = []
        for place, text in enumerate(texts):
            if place > 0:
                codes.append(_SPACE)
            codes.extend(text.codes)
        return _text_with(tuple(codes))

    @property
    def codes(self):
        """The tuple of the codes."""
        return self._codes

    @property
    def is_plain(self):
        """Whether all codes are those of marks."""
        return all([is_plain_code(code) for code in self._codes])

    def cut(self):
        """The tuple of the parts between codes 32."""
        parts = []
        start = 0
        for place, code in enumerate(self._codes):
            if code == _SPACE:
                parts.append(_text_with(self._codes[start:place]))
                start = place + 1
        parts.append(_text_with(self._codes[start:]))
        return tuple(parts)

    def part(self, start, end):
        """The text of the codes from start to end, without the one at end."""
        if not is_between(start, 0, len(self._codes)):
            raise BadNumber(start)
        if not is_between(end, start, len(self._codes)):
            raise BadNumber(end)
        return _text_with(self._codes[start:end])

    def __add__(self, other):
        if not isinstance(other, Text):
            return NotImplemented
        return _text_with(self._codes + other._codes)

    def __getitem__(self, at):
        if not is_between(at, 0, len(self._codes) - 1):
            raise NoCode(at)
        return self._codes[at]

    # Without this, Python would read the items one by one from 0 on.
    def __iter__(self):
        raise TypeError("a text is not iterable")

    def __len__(self):
        return len(self._codes)

    def __contains__(self, code):
        return is_code(code) and code in self._codes

    def __bool__(self):
        return bool(self._codes)

    def __eq__(self, other):
        return isinstance(other, Text) and self._codes == other._codes

    def __str__(self):
        return "".join([_shown(code) for code in self._codes])


def _text_with(codes):
    """The text of what surely is a tuple of codes, which are not looked at again."""
    # The constructor takes marks alone. Nothing else knows the new text yet, so its codes may be set here.
    made = Text()
    made._codes = codes
    return made


def _shown(code):
    """The mark of a plain code, or the digits of another one in braces."""
    if is_plain_code(code):
        return mark_of(code)
    return "{" + str(code) + "}"
