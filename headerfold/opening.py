"""How header texts begin: with a name and a colon."""

from headerfold.errors import BadHeader
from headerfold.marks import is_label, is_raw, unfolded


def name_of(text):
    """The name of a header text; None if this is no header text."""
    if not is_raw(text):
        return None
    name, colon, _ = text.partition(":")
    return name if colon != "" and is_label(name) else None


def opened(text):
    """The name and the body of a header text, and the defects of unfolding."""
    name = name_of(text)
    if name is None:
        raise BadHeader(text)
    rest = text[len(name) + 1:].removesuffix("\n")
    if rest.startswith(" "):
        rest = rest[1:]
    elif rest.startswith("\n "):
        rest = rest[2:]
    body, defects = unfolded(rest)
    return name, body, defects
