"""Codings, between octets and payloads, and charsets, between texts and octets."""

from headerfold.errors import BadCharset, BadCode, BadCoding, BadOctet, BadPayload, BadText
from headerfold.marks import LETTERS_AND_DIGITS, is_between, is_code, is_plain_code, mark_of
from headerfold.texts import Text

CHARSETS = ("latin", "wide", "steps")
CODINGS = ("h", "s")

_H_DIGITS = "0123456789ABCDEF"
_ALPHABET = "ABCDEFGHIJKLMNOPQRSTUVWXYZabcdefghijklmnopqrstuvwxyz0123456789+-"
# What is no code is read as a question mark.
_UNKNOWN = 63


def is_charset(thing):
    """Whether this is the word of a charset."""
    return isinstance(thing, str) and thing in CHARSETS


def is_coding(thing):
    """Whether this is the word of a coding."""
    return isinstance(thing, str) and thing in CODINGS


def check_text(charset, text):
    """Raises the error that is due if this is no text, or has a code that is too large."""
    if not isinstance(text, Text):
        raise BadText(text)
    # The other charsets have room for all codes.
    if charset == "latin":
        for place, code in enumerate(text.codes):
            if code > 255:
                raise BadCode(place)


def payload_of(coding, octets):
    """The payload that is written for a tuple of octets."""
    if not is_coding(coding):
        raise BadCoding(coding)
    _check_octets(octets)
    if coding == "h":
        return "".join([_h_form(octet) for octet in octets])
    # Three octets are four whole digits, so no row of three depends on its neighbors.
    return "".join([_s_form(octets[start:start + 3]) for start in range(0, len(octets), 3)])


def octets_of(coding, payload):
    """The tuple of the octets of a payload."""
    if not is_coding(coding):
        raise BadCoding(coding)
    if not isinstance(payload, str):
        raise BadPayload(None)
    if coding == "h":
        return _h_octets(payload)
    return _s_octets(payload)


def octets_for(charset, text):
    """The tuple of the octets that a text has in a charset."""
    if not is_charset(charset):
        raise BadCharset(charset)
    check_text(charset, text)
    octets = []
    for code in text.codes:
        octets.extend(_row_of(charset, code))
    return tuple(octets)


def text_from(charset, octets):
    """The text of a tuple of octets, and whether all of them were codes."""
    if not is_charset(charset):
        raise BadCharset(charset)
    _check_octets(octets)
    codes = [_code_of(charset, row) for row in _rows_of(charset, octets)]
    known = [code if is_code(code) else _UNKNOWN for code in codes]
    return Text.of(tuple(known)), known == codes


def _check_octets(octets):
    if not isinstance(octets, tuple):
        raise BadOctet(None)
    for place, octet in enumerate(octets):
        if not is_between(octet, 0, 255):
            raise BadOctet(place)


def _h_form(octet):
    """What stands for an octet in the coding h."""
    if octet == 32:
        return "_"
    if is_plain_code(octet) and mark_of(octet) in LETTERS_AND_DIGITS:
        return mark_of(octet)
    return f"={octet:02X}"


def _h_octets(payload):
    """The octets of a payload in the coding h."""
    octets = []
    place = 0
    while place < len(payload):
        width = 3 if payload[place] == "=" else 1
        octet = _h_octet(payload[place:place + width])
        if octet is None:
            raise BadPayload(place)
        octets.append(octet)
        place = place + width
    return tuple(octets)


def _h_octet(form):
    """The octet for which this stands in the coding h; None if it stands for none."""
    if form == "_":
        return 32
    if form in LETTERS_AND_DIGITS:
        return ord(form)
    if len(form) == 3 and form[1] in _H_DIGITS and form[2] in _H_DIGITS:
        return _H_DIGITS.index(form[1]) * 16 + _H_DIGITS.index(form[2])
    return None


def _s_form(octets):
    """The digits of one, two or three octets in the coding s."""
    first, second, third = (octets + (0, 0))[:3]
    bits = first * 65536 + second * 256 + third
    digits = (bits // 262144, bits // 4096 % 64, bits // 64 % 64, bits % 64)
    return "".join([_ALPHABET[digit] for digit in digits[:len(octets) + 1]])


def _s_octets(payload):
    """The octets of a payload in the coding s."""
    for place, mark in enumerate(payload):
        if mark not in _ALPHABET:
            raise BadPayload(place)
    if len(payload) % 4 == 1:
        raise BadPayload(len(payload))
    octets = []
    for start in range(0, len(payload), 4):
        digits = payload[start:start + 4]
        row = _s_row(digits)
        # A row of fewer than four digits has fewer octets; what is cut off are left-over bits.
        many = len(digits) - 1
        if any([octet != 0 for octet in row[many:]]):
            raise BadPayload(len(payload) - 1)
        octets.extend(row[:many])
    return tuple(octets)


def _s_row(digits):
    """The three octets of four digits; digits that are missing count as 0."""
    bits = 0
    for mark in digits.ljust(4, _ALPHABET[0]):
        bits = bits * 64 + _ALPHABET.index(mark)
    return bits // 65536, bits // 256 % 256, bits % 256


def _row_of(charset, code):
    """The octets of one code."""
    if charset == "latin":
        return (code,)
    if charset == "wide":
        return code // 256, code % 256
    row = []
    while code > 127:
        row.append(code % 128 + 128)
        code = code // 128
    return (*row, code)


def _rows_of(charset, octets):
    """The octets, cut into rows that stand for one code each."""
    rows = []
    row = ()
    for octet in octets:
        row = (*row, octet)
        if _is_whole(charset, row):
            rows.append(row)
            row = ()
    if row != ():
        rows.append(row)
    return rows


def _is_whole(charset, row):
    """Whether a row ends behind its last octet."""
    if charset == "latin":
        return True
    if charset == "wide":
        return len(row) == 2
    return row[-1] < 128 or len(row) == 3


def _code_of(charset, row):
    """The number of a row, which need not be a code; None if the row itself is wrong."""
    if charset == "latin":
        return row[0]
    if charset == "wide":
        return row[0] * 256 + row[1] if len(row) == 2 else None
    # A 0 at the end is needless, and a 0 alone is no code either.
    if row[-1] > 127 or row[-1] == 0:
        return None
    number = 0
    for octet in row[::-1]:
        number = number * 128 + octet % 128
    return number
