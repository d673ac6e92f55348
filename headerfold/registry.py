"""The registry, which knows the kinds of headers by their names."""

from headerfold.errors import BadHeader, BadKind, BadLabel
from headerfold.headers import header_of, header_read_as
from headerfold.marks import is_label
from headerfold.opening import name_of

KINDS = ("plain", "people", "typed", "moment")

# The names are in small letters, since case does not count.
_AT_FIRST = {
    "from": "people", "to": "people", "cc": "people", "reply-to": "people", "sender": "people",
    "date": "moment", "content-form": "typed", "content-place": "typed",
}


class Registry:
    """The names that have a kind; all others are plain."""

    def __init__(self, *rows):
        for row in rows:
            if not isinstance(row, tuple) or len(row) != 2:
                raise BadKind(None)
        self._kinds = dict(_AT_FIRST)
        for name, kind in rows:
            self.assign(name, kind)

    def assign(self, name, kind):
        """Gives a kind to a name."""
        if not is_label(name):
            raise BadLabel(name)
        if not isinstance(kind, str) or kind not in KINDS:
            raise BadKind(kind)
        self._kinds[name.lower()] = kind

    def kind_of(self, name):
        """The kind of a name."""
        if not is_label(name):
            raise BadLabel(name)
        return self._kinds.get(name.lower(), "plain")

    def make(self, name, content):
        """The header of the kind of this name."""
        return header_of(self.kind_of(name), name, content)

    def twin(self):
        """A registry with the same kinds that does not change with this one."""
        made = Registry()
        made._kinds = dict(self._kinds)
        return made

    def __call__(self, text):
        name = name_of(text)
        if name is None:
            raise BadHeader(text)
        return header_read_as(self.kind_of(name), text)

    def __contains__(self, name):
        return is_label(name) and name.lower() in self._kinds

    def __len__(self):
        return len(self._kinds)
