"""The tokens of bodies of people: tuples of a position, a kind and a content."""

from headerfold.marks import NOT_IN_ATOMS
from headerfold.quoting import enclosed


def scanned(body):
    """The list of all tokens of a body, and the list of the defects that they have."""
    tokens = []
    defects = []
    place = 0
    while place < len(body):
        mark = body[place]
        if mark == " ":
            place = place + 1
        elif mark == ")":
            defects.append((place, "mark"))
            place = place + 1
        else:
            kind, content, end, has_end = _token_at(body, place)
            tokens.append((place, kind, content))
            if not has_end:
                defects.append((place, "comment" if kind == "comment" else "quote"))
            place = end
    return tokens, defects


def _token_at(body, start):
    """The kind and the content of a token, the position behind it, and whether it has an end."""
    mark = body[start]
    if mark == "(":
        return "comment", *enclosed(body, start)
    if mark == "\"":
        return "quoted", *enclosed(body, start)
    if mark in NOT_IN_ATOMS:
        return "mark", mark, start + 1, True
    end = start
    while end < len(body) and body[end] not in NOT_IN_ATOMS:
        end = end + 1
    return "atom", body[start:end], end, True


def is_one_of(token, marks):
    """Whether a token is one of these marks."""
    return token[1] == "mark" and token[2] in marks


def is_word(token):
    """Whether a token is an atom or quoted."""
    return token[1] in ("atom", "quoted")


def first_place(tokens, mark):
    """The place of the first token that is this mark; None if there is none."""
    for place, token in enumerate(tokens):
        if is_one_of(token, mark):
            return place
    return None


def comments_among(tokens):
    """The tuple of the contents of all comments."""
    return tuple([content for _, kind, content in tokens if kind == "comment"])


def without_comments(tokens):
    """The list of the other tokens."""
    return [token for token in tokens if token[1] != "comment"]


def place_of_pair(tokens):
    """The place of the first @ that stands between a word and an atom; None if there is none."""
    for place in range(1, len(tokens) - 1):
        if is_one_of(tokens[place], "@") and is_word(tokens[place - 1]) and tokens[place + 1][1] == "atom":
            return place
    return None


def pair_at(tokens, place):
    """The contents of the tokens around a place; None for no place."""
    if place is None:
        return None
    return tokens[place - 1][2], tokens[place + 1][2]


def members_cut(tokens, end):
    """The rows of tokens between commas, each with the position at which it ends."""
    rows = []
    row = []
    for token in tokens:
        if is_one_of(token, ","):
            rows.append((row, token[0]))
            row = []
        else:
            row.append(token)
    rows.append((row, end))
    return rows


def entries_cut(tokens, end):
    """The rows of tokens between commas outside of groups, each with the position at which it ends."""
    rows = []
    row = []
    has_colon = is_in_group = False
    for token in tokens:
        if is_one_of(token, ",") and not is_in_group:
            rows.append((row, token[0]))
            row = []
            has_colon = False
            continue
        row.append(token)
        if is_one_of(token, ";"):
            is_in_group = False
        elif is_one_of(token, ":") and not has_colon:
            has_colon = is_in_group = True
    rows.append((row, end))
    return rows
