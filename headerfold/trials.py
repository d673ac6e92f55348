"""Trials: changes of a letter that are made as a whole, or not at all."""

from headerfold.errors import BadChange

_LENGTHS = {"add": 2, "put": 3, "take": 2, "move": 3, "set": 3, "undo": 1, "redo": 1}


class Kept:
    """The stand of a letter at the beginning of a block, and what was kept for the block around it."""

    def __init__(self, stand, before):
        self.stand = stand
        self.before = before


class Trial:
    """A block behind which the letter is as it was at the beginning if an exception leaves it."""

    def __init__(self, letter):
        self._letter = letter
        self._kept = None

    def __enter__(self):
        self._kept = Kept(self._letter.stand, self._kept)
        return self._letter

    def __exit__(self, kind, value, trace):
        letter = self._letter
        if kind is not None:
            letter.stand = self._kept.stand
        self._kept = self._kept.before


def apply_all(letter, changes):
    """Makes a tuple of changes; if one is not possible, none is made."""
    _check_changes(changes)
    with Trial(letter) as held:
        for change in changes:
            _make(held, change)


def would(letter, changes):
    """The headers that the letter would have behind these changes."""
    copy = letter.twin()
    apply_all(copy, changes)
    return copy.all_headers


def _check_changes(changes):
    if not isinstance(changes, tuple):
        raise BadChange(None)
    for place, change in enumerate(changes):
        if not _is_change(change):
            raise BadChange(place)


def _is_change(thing):
    """Whether this is a tuple with the word of a change and so many arguments."""
    if not isinstance(thing, tuple) or len(thing) == 0:
        return False
    return isinstance(thing[0], str) and _LENGTHS.get(thing[0]) == len(thing)


def _make(letter, change):
    """Makes one change, whose word and length are right."""
    word = change[0]
    if word == "add":
        letter.add(change[1])
    elif word == "put":
        letter.put_at(change[1], change[2])
    elif word == "take":
        letter.take_out(change[1])
    elif word == "move":
        letter.move(change[1], change[2])
    elif word == "set":
        letter.set_content(change[1], change[2])
    elif word == "undo":
        letter.undo()
    else:
        letter.redo()
