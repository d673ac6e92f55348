"""Feeding: headers are collected line by line."""

from headerfold.errors import BadLine, Ended
from headerfold.marks import is_body
from headerfold.opening import name_of
from headerfold.registry import Registry


class Feeder:
    """Collects the lines of a block of headers."""

    def __init__(self, registry=None):
        self._registry = Registry() if registry is None else registry
        self._lines = []
        self._strays = []
        self._many = 0
        self._ended = False

    @property
    def fed(self):
        """The number of closed headers."""
        return self._many

    @property
    def strays(self):
        """The tuple of the lines that belong to no header."""
        return tuple(self._strays)

    @property
    def has_ended(self):
        """Whether the block has ended."""
        return self._ended

    def feed(self, line):
        """Takes one line; the header that is closed by it, or None."""
        if not is_body(line):
            raise BadLine(line)
        if line == "":
            return self.finish()
        self._check_open()
        if line.startswith(" ") and len(self._lines) > 0:
            self._lines.append(line)
            return None
        closed = self._closed()
        if name_of(line) is None:
            self._strays.append(line)
        else:
            self._lines = [line]
        return closed

    def finish(self):
        """Ends the block; the header that is closed by this, or None."""
        self._check_open()
        self._ended = True
        return self._closed()

    def _check_open(self):
        if self._ended:
            raise Ended(self._many)

    def _closed(self):
        """The open header, which is closed; None if there is none."""
        if len(self._lines) == 0:
            return None
        header = self._registry("\n".join(self._lines))
        self._lines = []
        self._many = self._many + 1
        return header


def feed_all(lines, registry=None):
    """All headers of a tuple of lines, up to the first empty line."""
    if not isinstance(lines, tuple):
        raise BadLine(None)
    for line in lines:
        if not is_body(line):
            raise BadLine(line)
    feeder = Feeder(registry)
    for line in lines:
        if line == "":
            break
        header = feeder.feed(line)
        if header is not None:
            yield header
    header = feeder.finish()
    if header is not None:
        yield header
