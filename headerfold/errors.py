"""The errors of the package: three families, and the classes that are raised.

The messages leave out what was given, since showing it could fail; the fields hold it.
"""


class HeaderError(ValueError):
    """The family for what was given and is not as described; never raised itself."""


class LetterError(RuntimeError):
    """The family for what cannot be done now; never raised itself."""


class AbsentError(LookupError):
    """The family for what is not there; never raised itself."""


class BadBody(HeaderError):
    """Something that is no body, or no raw string."""

    def __init__(self, given):
        super().__init__("this is not a string of the characters that may stand here")
        self.given = given


class BadText(HeaderError):
    """Something that is no text, or no marks of one."""

    def __init__(self, given):
        super().__init__("this is not a text, or not the marks of one")
        self.given = given


class BadCode(HeaderError):
    """An item that is no code that may stand there; None if there is no tuple."""

    def __init__(self, place):
        super().__init__("an item is no code that may stand here, or there is no tuple")
        self.place = place


class BadOctet(HeaderError):
    """An item that is no octet; None if there is no tuple."""

    def __init__(self, place):
        super().__init__("an item is no octet, or there is no tuple")
        self.place = place


class BadPayload(HeaderError):
    """The place at which a payload is wrong; None if it is no string."""

    def __init__(self, place):
        super().__init__("this is not a payload of this coding")
        self.place = place


class BadCharset(HeaderError):
    """Something that is no charset."""

    def __init__(self, given):
        super().__init__("this is not a charset")
        self.given = given


class BadCoding(HeaderError):
    """Something that is no coding."""

    def __init__(self, given):
        super().__init__("this is not a coding")
        self.given = given


class BadWidth(HeaderError):
    """Something that is no width."""

    def __init__(self, given):
        super().__init__("this is not a width")
        self.given = given


class BadLabel(HeaderError):
    """Something that is no name of a header."""

    def __init__(self, given):
        super().__init__("this is not a name")
        self.given = given


class BadPiece(HeaderError):
    """An item that is no piece; None if there is no tuple."""

    def __init__(self, place):
        super().__init__("an item is no piece, or there is no tuple")
        self.place = place


class BadAddress(HeaderError):
    """Something that is no address."""

    def __init__(self, given):
        super().__init__("this is not an address")
        self.given = given


class BadComment(HeaderError):
    """An item that is no comment; None if there is no tuple."""

    def __init__(self, place):
        super().__init__("an item is no comment, or there is no tuple")
        self.place = place


class BadEntry(HeaderError):
    """An item that is no entry or member; None if there is no tuple."""

    def __init__(self, place):
        super().__init__("an item is no entry, or there is no tuple")
        self.place = place


class BadMain(HeaderError):
    """Something that is no main."""

    def __init__(self, given):
        super().__init__("this is not a main")
        self.given = given


class BadKey(HeaderError):
    """Something that is no key."""

    def __init__(self, given):
        super().__init__("this is not a key")
        self.given = given


class BadParameter(HeaderError):
    """An item that is no parameter; None if there is no tuple."""

    def __init__(self, place):
        super().__init__("an item is no parameter, or there is no tuple")
        self.place = place


class BadDate(HeaderError):
    """A number that is no part of a date, a time or a zone."""

    def __init__(self, given):
        super().__init__("this is not a part of a date")
        self.given = given


class BadNumber(HeaderError):
    """Something that is no integer within its limits."""

    def __init__(self, given):
        super().__init__("this is not a number within its limits")
        self.given = given


class BadContent(HeaderError):
    """Something that is no content of its kind."""

    def __init__(self, given):
        super().__init__("this is not a content of this kind")
        self.given = given


class BadHeader(HeaderError):
    """Something that is no header, or no header text."""

    def __init__(self, given):
        super().__init__("this is not a header")
        self.given = given


class BadKind(HeaderError):
    """Something that is no kind of headers."""

    def __init__(self, given):
        super().__init__("this is not a kind of headers")
        self.given = given


class BadLine(HeaderError):
    """Something that is no line."""

    def __init__(self, given):
        super().__init__("this is not a line")
        self.given = given


class BadChange(HeaderError):
    """An item that is no change; None if there is no tuple."""

    def __init__(self, place):
        super().__init__("an item is no change, or there is no tuple")
        self.place = place


class Ended(LetterError):
    """A line behind the end; many is the number of headers."""

    def __init__(self, many):
        super().__init__("the block of headers has ended")
        self.many = many


class Full(LetterError):
    """More headers than the limit."""

    def __init__(self, limit):
        super().__init__("there is no room for another header")
        self.limit = limit


class NothingToUndo(LetterError):
    """No change is left that can be undone."""

    def __init__(self, many):
        super().__init__("no change can be undone")
        self.many = many


class NothingToRedo(LetterError):
    """No change is left that can be made again."""

    def __init__(self, many):
        super().__init__("no change can be made again")
        self.many = many


class NoCode(AbsentError):
    """A place at which a text has no code."""

    def __init__(self, given):
        super().__init__("the text has no code there")
        self.given = given


class NoKey(AbsentError):
    """A key that is not there."""

    def __init__(self, given):
        super().__init__("there is no such key")
        self.given = given


class NoHeader(AbsentError):
    """A name that no header has."""

    def __init__(self, given):
        super().__init__("there is no header of this name")
        self.given = given
