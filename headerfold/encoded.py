"""Encoded words: words that stand for codes which need not be marks."""

from headerfold.codings import check_text, is_charset, is_coding, octets_for, octets_of, payload_of, text_from
from headerfold.errors import BadBody, BadCharset, BadCoding, BadNumber, BadPayload, BadText
from headerfold.marks import is_body, is_number
from headerfold.texts import Text

_WORD_LIMIT = 60
_SHORTEST_SHAPE = 4


def has_shape(word):
    """Whether this is a word that begins and ends like an encoded word."""
    return _is_word(word) and len(word) >= _SHORTEST_SHAPE and word.startswith("=?") and word.endswith("?=")


def word_for(charset, coding, text):
    """The encoded word for a whole text, however long it is."""
    _check_all(charset, coding, text)
    payload = payload_of(coding, octets_for(charset, text))
    return f"=?{charset}?{coding}?{payload}?="


def reading_of(word):
    """The text of a right encoded word, otherwise None; and the words of its defects."""
    if not _is_word(word):
        raise BadBody(word)
    if not has_shape(word):
        return None, ()
    parts = word[2:-2].split("?")
    if len(parts) != 3:
        return None, ("parts",)
    charset, coding, payload = parts
    if not is_charset(charset):
        return None, ("charset",)
    if not is_coding(coding):
        return None, ("coding",)
    octets = _octets_or_none(coding, payload)
    if octets is None:
        return None, ("payload",)
    text, is_right = text_from(charset, octets)
    defects = []
    if len(word) > _WORD_LIMIT:
        defects.append("long")
    if not is_right:
        defects.append("octets")
    return text, tuple(defects)


def best_choice(text):
    """The charset and the coding with which a stretch is written."""
    if not isinstance(text, Text):
        raise BadText(text)
    charset = "latin" if all([code <= 255 for code in text.codes]) else "steps"
    octets = octets_for(charset, text)
    if len(payload_of("h", octets)) <= len(payload_of("s", octets)):
        return charset, "h"
    return charset, "s"


def first_word(charset, coding, text, room):
    """The word for as many of the first codes as fit, and the text that is left; None if none fits."""
    _check_all(charset, coding, text)
    if not is_number(room) or room < 0:
        raise BadNumber(room)
    limit = min(room, _WORD_LIMIT)
    many = _many_that_fit(charset, coding, text, limit)
    if many == 0 and len(text) > 0:
        return None
    word = word_for(charset, coding, text.part(0, many))
    if len(word) > limit:
        return None
    return word, text.part(many, len(text))


def _is_word(thing):
    """Whether this is a body without spaces."""
    return is_body(thing) and " " not in thing


def _check_all(charset, coding, text):
    if not is_charset(charset):
        raise BadCharset(charset)
    if not is_coding(coding):
        raise BadCoding(coding)
    check_text(charset, text)


def _octets_or_none(coding, payload):
    """The octets of a payload; None if it is not right."""
    try:
        return octets_of(coding, payload)
    except BadPayload:
        return None


def _many_that_fit(charset, coding, text, limit):
    """How many of the first codes there are in the longest word of at most this length."""
    # One more code never makes a word shorter, so each trial halves what is left to search.
    low = 0
    high = min(len(text), _WORD_LIMIT)
    while low < high:
        middle = (low + high + 1) // 2
        if len(word_for(charset, coding, text.part(0, middle))) <= limit:
            low = middle
        else:
            high = middle - 1
    return low
