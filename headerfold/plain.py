"""Plain headers, whose value is a text."""

from headerfold.encoded import has_shape, reading_of
from headerfold.errors import BadBody, BadText, BadWidth
from headerfold.laying import is_width
from headerfold.marks import is_body, words_of
from headerfold.texts import Text

_SPACE = 32


def read_plain(body):
    """The text of a body, and the defects of its words."""
    if not is_body(body):
        raise BadBody(body)
    codes = []
    defects = []
    end = None
    was_encoded = False
    for position, word in words_of(body):
        text, faults = reading_of(word)
        is_encoded = text is not None
        if end is not None and not (was_encoded and is_encoded):
            codes.extend([_SPACE] * (position - end))
        codes.extend(text.codes if is_encoded else Text(word).codes)
        defects.extend([(position, fault) for fault in faults])
        end = position + len(word)
        was_encoded = is_encoded
    return Text.of(tuple(codes)), tuple(defects)


def plain_pieces(text, *, width=78):
    """The pieces with which a text is written."""
    if not isinstance(text, Text):
        raise BadText(text)
    if not is_width(width):
        raise BadWidth(width)
    if len(text) == 0:
        return ()
    parts = text.cut()
    return pieces_of_parts(parts, [_is_literal(part, width) for part in parts])


def pieces_of_parts(parts, literals):
    """The pieces of the parts of a text; each longest row of parts that are not literal is a stretch."""
    pieces = []
    row = []
    for part, is_literal in zip(parts, literals):
        if not is_literal:
            row.append(part)
            continue
        if len(row) > 0:
            pieces.append(Text.joined(tuple(row)))
            row = []
        pieces.append(str(part))
    if len(row) > 0:
        pieces.append(Text.joined(tuple(row)))
    return tuple(pieces)


def _is_literal(part, width):
    """Whether a part is written as it is: its line must have place for a space and the part."""
    return 0 < len(part) < width and part.is_plain and not has_shape(str(part))
