"""Headers of the four kinds, and their texts."""

from headerfold.errors import BadContent, BadHeader, BadLabel, BadWidth
from headerfold.laying import is_width, laid_out
from headerfold.marks import is_label
from headerfold.moments import Moment, moment_pieces, read_moment
from headerfold.opening import opened
from headerfold.people import Group, Mailbox, mailboxes_of, people_pieces, read_people
from headerfold.plain import plain_pieces, read_plain
from headerfold.texts import Text
from headerfold.typed import Typed, read_typed, typed_pieces


class Header:
    """A name and a content; the base class of the four kinds, which is not created itself."""

    KIND = "none"

    def __init__(self, name, content):
        if not is_label(name):
            raise BadLabel(name)
        if not self._takes(content):
            raise BadContent(content)
        self._name = name
        self._content = content
        self._defects = ()

    @property
    def name(self):
        """The name, as it was given."""
        return self._name

    @property
    def content(self):
        """The value."""
        return self._content

    @property
    def defects(self):
        """The tuple of the defects with which the header was read."""
        return self._defects

    @property
    def is_clean(self):
        """Whether there are no defects."""
        return len(self._defects) == 0

    def pieces(self, *, width=78):
        """The pieces of the content; each kind has its own, the base class has none."""
        _check_width(width)
        return ()

    def folded(self, *, width=78):
        """The header text at this width."""
        return laid_out(self._name, self.pieces(width=width), width=width)

    def changed(self, content):
        """A header of the same class and name with another content, without defects."""
        return header_of(self.KIND, self._name, content)

    def __eq__(self, other):
        return (isinstance(other, Header) and self.KIND == other.KIND
                and self._name.lower() == other._name.lower() and self._content == other._content)

    def __str__(self):
        return str(self.folded())

    def __len__(self):
        return len(str(self).split("\n"))

    def _takes(self, content):
        """Whether this is a value of the kind; the base class has none."""
        return False

    def _told(self):
        """The beginning of a summary: the name, the kind and the defects."""
        return [f"{self._name}: {self.KIND}", *[f"{position} {word}" for position, word in self._defects]]


class PlainHeader(Header):
    """A header whose value is a text."""

    KIND = "plain"

    @classmethod
    def read(cls, text):
        """The header of a header text."""
        name, body, faults = opened(text)
        content, more = read_plain(body)
        made = cls(name, content)
        made._defects = _in_order(faults + more)
        return made

    def pieces(self, *, width=78):
        """The pieces of the text."""
        return plain_pieces(self._content, width=width)

    def summary(self):
        """What the header is, line by line."""
        return [*self._told(), f"codes {len(self._content)}"]

    def _takes(self, content):
        return isinstance(content, Text)


class PeopleHeader(Header):
    """A header whose value is a tuple of entries."""

    KIND = "people"

    @classmethod
    def read(cls, text):
        """The header of a header text."""
        name, body, faults = opened(text)
        content, more = read_people(body)
        made = cls(name, content)
        made._defects = _in_order(faults + more)
        return made

    def pieces(self, *, width=78):
        """The pieces of the entries, which are the same for every width."""
        _check_width(width)
        return people_pieces(self._content)

    def summary(self):
        """What the header is, line by line."""
        boxes = list(mailboxes_of(self._content))
        return [*self._told(), f"people {len(boxes)}"]

    def _takes(self, content):
        return isinstance(content, tuple) and all([isinstance(entry, (Mailbox, Group)) for entry in content])


class TypedHeader(Header):
    """A header whose value is a main with parameters."""

    KIND = "typed"

    @classmethod
    def read(cls, text):
        """The header of a header text."""
        name, body, faults = opened(text)
        content, more = read_typed(body)
        made = cls(name, content)
        made._defects = _in_order(faults + more)
        return made

    def pieces(self, *, width=78):
        """The pieces of the main and the parameters."""
        return typed_pieces(self._content, width=width)

    def summary(self):
        """What the header is, line by line."""
        names = self._content.key_names
        return [*self._told(), " ".join(["keys", *names])]

    def _takes(self, content):
        return isinstance(content, Typed)


class MomentHeader(Header):
    """A header whose value is a moment or None."""

    KIND = "moment"

    @classmethod
    def read(cls, text):
        """The header of a header text."""
        name, body, faults = opened(text)
        content, more = read_moment(body)
        made = cls(name, content)
        made._defects = _in_order(faults + more)
        return made

    def pieces(self, *, width=78):
        """The pieces of the moment, which are the same for every width."""
        _check_width(width)
        return moment_pieces(self._content)

    def summary(self):
        """What the header is, line by line."""
        if self._content is None:
            return [*self._told(), "none"]
        return [*self._told(), f"instant {self._content.instant}"]

    def _takes(self, content):
        return content is None or isinstance(content, Moment)


class Laying:
    """What gives the texts of headers at one width."""

    def __init__(self, width=78):
        _check_width(width)
        self._width = width

    @property
    def width(self):
        """The width."""
        return self._width

    def all_of(self, *headers):
        """The header texts, with newlines between them."""
        for header in headers:
            if not isinstance(header, Header):
                raise BadHeader(header)
        return "\n".join([header.folded(width=self._width) for header in headers])

    def __call__(self, header):
        if not isinstance(header, Header):
            raise BadHeader(header)
        return header.folded(width=self._width)


def header_of(kind, name, content):
    """The header of this kind with a name and a content."""
    if kind == "people":
        return PeopleHeader(name, content)
    if kind == "typed":
        return TypedHeader(name, content)
    if kind == "moment":
        return MomentHeader(name, content)
    return PlainHeader(name, content)


def header_read_as(kind, text):
    """The header of this kind of a header text."""
    if kind == "people":
        return PeopleHeader.read(text)
    if kind == "typed":
        return TypedHeader.read(text)
    if kind == "moment":
        return MomentHeader.read(text)
    return PlainHeader.read(text)


def _in_order(defects):
    """The defects in ascending order, without duplicates."""
    return tuple(sorted(set(defects)))


def _check_width(width):
    if not is_width(width):
        raise BadWidth(width)
