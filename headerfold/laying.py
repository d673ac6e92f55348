"""Laying out: pieces become the lines of a header text."""

from headerfold.encoded import best_choice, first_word
from headerfold.errors import BadLabel, BadPiece, BadWidth
from headerfold.marks import is_between, is_body, is_label, unfolded
from headerfold.texts import Text

_NARROWEST = 50
_WIDEST = 200


def is_width(thing):
    """Whether this is a width of lines."""
    return is_between(thing, _NARROWEST, _WIDEST)


def lines_of(name, pieces, *, width=78):
    """The lines of a header, one after the other."""
    lines = _all_lines(name, pieces, width)
    yield from lines


def laid_out(name, pieces, *, width=78):
    """The header text of a name and pieces."""
    # The string of a header comes to this, and nothing that gives a string walks a generator.
    return "\n".join(_all_lines(name, pieces, width))


def body_of(pieces, *, width=78):
    """The body that is read when the pieces are laid out behind the name X."""
    text = laid_out("X", pieces, width=width)
    body, _ = unfolded(text[len("X:"):])
    # A space stands in front of the first piece, on the first line or on the second one.
    return body[1:]


def _all_lines(name, pieces, width):
    """The list of the lines of a header."""
    _check_all(name, pieces, width)
    closed = []
    line = name + ":"
    for piece in pieces:
        found = _lines_with(line, piece, width)
        closed.extend(found[:-1])
        line = found[-1]
    return [*closed, line]


def _check_all(name, pieces, width):
    if not is_label(name):
        raise BadLabel(name)
    if not isinstance(pieces, tuple):
        raise BadPiece(None)
    for place, piece in enumerate(pieces):
        if not _is_piece(piece):
            raise BadPiece(place)
    if not is_width(width):
        raise BadWidth(width)


def _is_piece(thing):
    """Whether this is a text, or a body that is not empty and has no spaces at its ends."""
    if isinstance(thing, Text):
        return True
    return is_body(thing) and thing != "" and thing == thing.strip(" ")


def _lines_with(line, piece, width):
    """The open line with a piece behind it; the last of these lines is the open one then."""
    if isinstance(piece, Text):
        return _lines_with_stretch(line, piece, width)
    if len(line) + 1 + len(piece) <= width:
        return [line + " " + piece]
    return [line, " " + piece]


def _lines_with_stretch(line, stretch, width):
    """The open line with the words of a stretch behind it."""
    charset, coding = best_choice(stretch)
    lines = [line]
    rest = stretch
    is_open = True
    while is_open:
        room = max(0, width - len(lines[-1]) - 1)
        found = first_word(charset, coding, rest, room)
        if found is None:
            lines.append("")
        else:
            word, rest = found
            lines[-1] = lines[-1] + " " + word
            # The empty stretch has one word, too; so this is asked behind the word.
            is_open = len(rest) > 0
    return lines
