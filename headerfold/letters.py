"""Letters: headers in order, which can be changed, with changes that can be undone."""

from headerfold.errors import BadBody, BadHeader, BadLabel, BadNumber, Full, NoHeader, NothingToRedo, NothingToUndo
from headerfold.feeding import feed_all
from headerfold.headers import Header, Laying
from headerfold.marks import is_between, is_label, is_raw

_HEADERS_LIMIT = 100
_CHANGES_LIMIT = 30


class Stand:
    """The headers of a letter at one time, and those that undo and redo would bring; it never changes.

    The items of past and future are tuples of headers, the ones that come next at the end.
    """

    def __init__(self, headers, past, future):
        self.headers = headers
        self.past = past
        self.future = future

    def behind(self, headers):
        """The stand behind a change that leads to these headers."""
        past = (*self.past, self.headers)
        return Stand(headers, past[-_CHANGES_LIMIT:], ())

    def earlier(self):
        """The stand behind undo."""
        return Stand(self.past[-1], self.past[:-1], (*self.future, self.headers))

    def later(self):
        """The stand behind redo."""
        return Stand(self.future[-1], (*self.past, self.headers), self.future[:-1])


class Letter:
    """At most 100 headers in order.

    All that changes is held by the attribute stand, so that a trial can put it back at once.
    """

    def __init__(self, *headers):
        for header in headers:
            _check_header(header)
        if len(headers) > _HEADERS_LIMIT:
            raise Full(_HEADERS_LIMIT)
        self.stand = Stand(headers, (), ())

    @classmethod
    def read(cls, text, registry=None):
        """The letter of a raw string."""
        if not is_raw(text):
            raise BadBody(text)
        lines = tuple(text.split("\n"))
        headers = list(feed_all(lines, registry))
        return cls(*headers)

    @property
    def all_headers(self):
        """The tuple of the headers."""
        return self.stand.headers

    @property
    def undoable(self):
        """How many changes can be undone."""
        return len(self.stand.past)

    @property
    def redoable(self):
        """How many changes can be made again."""
        return len(self.stand.future)

    def add(self, header):
        """Puts a header behind all others."""
        _check_header(header)
        if len(self) >= _HEADERS_LIMIT:
            raise Full(_HEADERS_LIMIT)
        self.stand = self.stand.behind((*self.stand.headers, header))

    def put_at(self, place, header):
        """Puts a header in the place of another one."""
        self._check_place(place)
        _check_header(header)
        self.stand = self.stand.behind(self._with_at(place, (header,)))

    def take_out(self, place):
        """Takes a header out."""
        self._check_place(place)
        self.stand = self.stand.behind(self._with_at(place, ()))

    def move(self, place, goal):
        """Takes a header out, and puts it in again such that it has the number goal."""
        self._check_place(place)
        self._check_place(goal)
        rest = self._with_at(place, ())
        self.stand = self.stand.behind((*rest[:goal], self[place], *rest[goal:]))

    def set_content(self, name, content):
        """Gives another content to the first header of a name."""
        place = self._checked_place_of(name)
        self.stand = self.stand.behind(self._with_at(place, (self[place].changed(content),)))

    def undo(self):
        """Takes back the latest change that is not taken back."""
        if self.undoable == 0:
            raise NothingToUndo(0)
        self.stand = self.stand.earlier()

    def redo(self):
        """Makes the latest change again that was taken back."""
        if self.redoable == 0:
            raise NothingToRedo(0)
        self.stand = self.stand.later()

    def named(self, name):
        """The headers of a name, one after the other."""
        if not is_label(name):
            raise BadLabel(name)
        for header in self.stand.headers:
            if header.name.lower() == name.lower():
                yield header

    def first(self, name):
        """The first header of a name."""
        return self[self._checked_place_of(name)]

    def written(self, *, width=78):
        """The header texts, each with a newline behind it."""
        laying = Laying(width)
        return "".join([laying(header) + "\n" for header in self.stand.headers])

    def faults(self):
        """The defects of all headers, each behind the number of its header."""
        for number, header in enumerate(self.stand.headers):
            for position, word in header.defects:
                yield (number, position, word)

    def twin(self):
        """A letter with the same headers and changes that does not change with this one."""
        made = Letter()
        made.stand = self.stand
        return made

    def __getitem__(self, at):
        self._check_place(at)
        return self.stand.headers[at]

    # Without this, Python would read the items one by one from 0 on.
    def __iter__(self):
        raise TypeError("a letter is not iterable")

    def __len__(self):
        return len(self.stand.headers)

    def __contains__(self, name):
        return self._place_of(name) is not None

    def __add__(self, other):
        if not isinstance(other, Letter):
            return NotImplemented
        headers = self.stand.headers + other.stand.headers
        return Letter(*headers)

    def __eq__(self, other):
        return isinstance(other, Letter) and self.stand.headers == other.stand.headers

    def _check_place(self, place):
        if not is_between(place, 0, len(self.stand.headers) - 1):
            raise BadNumber(place)

    def _place_of(self, name):
        """The place of the first header of a name; None if this is no name of one."""
        if is_label(name):
            for place, header in enumerate(self.stand.headers):
                if header.name.lower() == name.lower():
                    return place
        return None

    def _checked_place_of(self, name):
        place = self._place_of(name)
        if place is None:
            raise NoHeader(name)
        return place

    def _with_at(self, place, headers):
        """The headers with these ones in place of one of them."""
        return (*self.stand.headers[:place], *headers, *self.stand.headers[place + 1:])


def _check_header(thing):
    if not isinstance(thing, Header):
        raise BadHeader(thing)
