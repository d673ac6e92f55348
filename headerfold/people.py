"""Headers of people, whose value is a tuple of mailboxes and groups."""

from headerfold.encoded import has_shape, reading_of
from headerfold.errors import BadAddress, BadBody, BadComment, BadEntry, BadText
from headerfold.marks import is_atom, is_body
from headerfold.plain import pieces_of_parts
from headerfold.quoting import commented, quoted
from headerfold.texts import Text
from headerfold.tokens import (comments_among, entries_cut, first_place, is_one_of, is_word, members_cut, pair_at,
                               place_of_pair, scanned, without_comments)

_SPACE = 32


class Mailbox:
    """A name, an address, and comments."""

    def __init__(self, label, address, comments=()):
        if not isinstance(label, Text):
            raise BadText(label)
        if address is not None and not _is_pair(address):
            raise BadAddress(address)
        _check_comments(comments)
        self._label = label
        self._address = address
        self._comments = comments

    @property
    def label(self):
        """The text of the name."""
        return self._label

    @property
    def address(self):
        """None, or the pair of the local part and the domain."""
        return self._address

    @property
    def comments(self):
        """The tuple of the comments."""
        return self._comments

    def __eq__(self, other):
        return (isinstance(other, Mailbox) and self._label == other._label
                and self._address == other._address and self._comments == other._comments)


class Group:
    """A name, members, which are mailboxes, and comments."""

    def __init__(self, label, members, comments=()):
        if not isinstance(label, Text):
            raise BadText(label)
        if not isinstance(members, tuple):
            raise BadEntry(None)
        for place, member in enumerate(members):
            if not isinstance(member, Mailbox):
                raise BadEntry(place)
        _check_comments(comments)
        self._label = label
        self._members = members
        self._comments = comments

    @property
    def label(self):
        """The text of the name."""
        return self._label

    @property
    def members(self):
        """The tuple of the mailboxes."""
        return self._members

    @property
    def comments(self):
        """The tuple of the comments."""
        return self._comments

    def __len__(self):
        return len(self._members)

    def __eq__(self, other):
        return (isinstance(other, Group) and self._label == other._label
                and self._members == other._members and self._comments == other._comments)


class PeopleReading:
    """One reading of a body: its entries are made part by part, its defects are collected on the way."""

    def __init__(self, body):
        self._end = len(body)
        self._tokens, self._found = scanned(body)

    def all_defects(self):
        """The defects so far, in their order."""
        return tuple(sorted(set(self._found)))

    def all_entries(self):
        """The tuple of the entries."""
        rows = entries_cut(self._tokens, self._end)
        found = []
        for row, end in rows:
            colon = first_place(row, ":")
            if colon is None:
                found.extend(self._mailboxes_in(row, end, len(rows) > 1))
            else:
                found.append(self._group_of(row, colon, end))
        return tuple(found)

    def _note(self, token, word):
        self._found.append((token[0], word))

    def _group_of(self, row, colon, end):
        """The group of an entry whose first colon stands at this place."""
        front = row[:colon]
        inner = row[colon + 1:]
        behind = []
        stop = first_place(inner, ";")
        if stop is None:
            self._note(row[colon], "group")
        else:
            end = inner[stop][0]
            behind = inner[stop + 1:]
            inner = inner[:stop]
        extra = without_comments(behind)
        if len(extra) > 0:
            self._note(extra[0], "extra")
        label = self._phrase_of(self._without_marks(without_comments(front), "<>@;"))
        return Group(label, self._members_of(inner, end), comments_among(front + behind))

    def _members_of(self, tokens, end):
        """The tuple of the members of a group."""
        rows = members_cut(tokens, end)
        found = []
        for row, stop in rows:
            found.extend(self._mailboxes_in(row, stop, len(rows) > 1))
        return tuple(found)

    def _mailboxes_in(self, row, end, has_comma):
        """The mailbox of an entry or member that ends at this position; none if it is dropped."""
        comments = comments_among(row)
        tokens = self._without_marks(without_comments(row), ":;")
        if len(tokens) == 0:
            if has_comma:
                self._found.append((end, "empty"))
            return ()
        start = first_place(tokens, "<")
        if start is not None:
            return (self._angle_mailbox(tokens, start, comments),)
        tokens = self._without_marks(tokens, ">")
        if len(tokens) == 0:
            return ()
        return (self._bare_mailbox(tokens, comments),)

    def _angle_mailbox(self, tokens, start, comments):
        """The mailbox of tokens with a < at this place."""
        label = self._phrase_of(self._without_marks(tokens[:start], ">@"))
        inner = tokens[start + 1:]
        stop = first_place(inner, ">")
        if stop is None:
            self._note(tokens[start], "angle")
        else:
            if stop + 1 < len(inner):
                self._note(inner[stop + 1], "extra")
            inner = inner[:stop]
        inner = self._without_marks(inner, "<")
        return Mailbox(label, pair_at(inner, self._checked_place(inner)), comments)

    def _bare_mailbox(self, tokens, comments):
        """The mailbox of tokens that are all address tokens."""
        place = self._checked_place(tokens)
        # The word in front of the @ is the local part, not one of the name.
        front = tokens if place is None else tokens[:place - 1]
        label = self._phrase_of([token for token in front if is_word(token)])
        return Mailbox(label, pair_at(tokens, place), comments)

    def _checked_place(self, tokens):
        """The place of the @ of the address tokens, which have a defect if there is more or less."""
        place = place_of_pair(tokens)
        if len(tokens) > 0 and (place is None or len(tokens) != 3):
            self._note(tokens[0], "address")
        return place

    def _phrase_of(self, words):
        """The text of atoms and quoted tokens."""
        codes = []
        was_encoded = False
        for place, (position, kind, content) in enumerate(words):
            text = None
            if kind == "atom":
                text, faults = reading_of(content)
                self._found.extend([(position, fault) for fault in faults])
            is_encoded = text is not None
            if place > 0 and not (was_encoded and is_encoded):
                codes.append(_SPACE)
            codes.extend(text.codes if is_encoded else Text(content).codes)
            was_encoded = is_encoded
        return Text.of(tuple(codes))

    def _without_marks(self, tokens, marks):
        """The tokens that are none of these marks; each of the others has a defect."""
        kept = []
        for token in tokens:
            if is_one_of(token, marks):
                self._note(token, "mark")
            else:
                kept.append(token)
        return kept


def tokens_of(body):
    """The tokens of a body, each a tuple of its position, its kind and its content."""
    if not is_body(body):
        raise BadBody(body)
    tokens, _ = scanned(body)
    yield from tokens


def read_people(body):
    """The tuple of the entries of a body, and its defects."""
    if not is_body(body):
        raise BadBody(body)
    reading = PeopleReading(body)
    entries = reading.all_entries()
    return entries, reading.all_defects()


def people_pieces(entries):
    """The pieces with which a tuple of entries is written."""
    _check_entries(entries)
    rows = []
    for entry in entries:
        rows.append(_group_pieces(entry) if isinstance(entry, Group) else _mailbox_pieces(entry))
    return tuple(_with_commas(rows))


def mailboxes_of(entries):
    """All mailboxes of a tuple of entries, also the members of groups."""
    _check_entries(entries)
    for entry in entries:
        if isinstance(entry, Group):
            yield from entry.members
        else:
            yield entry


def _is_pair(thing):
    """Whether this is a local part and a domain."""
    return isinstance(thing, tuple) and len(thing) == 2 and is_body(thing[0]) and is_atom(thing[1])


def _check_comments(comments):
    if not isinstance(comments, tuple):
        raise BadComment(None)
    for place, comment in enumerate(comments):
        if not is_body(comment):
            raise BadComment(place)


def _check_entries(entries):
    if not isinstance(entries, tuple):
        raise BadEntry(None)
    for place, entry in enumerate(entries):
        if not isinstance(entry, (Mailbox, Group)):
            raise BadEntry(place)


def _label_pieces(label):
    """The pieces of the name of a mailbox or a group."""
    if len(label) == 0:
        return ()
    parts = label.cut()
    literals = [part.is_plain and is_atom(str(part)) and not has_shape(str(part)) for part in parts]
    if label.is_plain and not all(literals):
        return (quoted(str(label)),)
    return pieces_of_parts(parts, literals)


def _mailbox_pieces(mailbox):
    pieces = [*_label_pieces(mailbox.label), _address_piece(mailbox)]
    pieces.extend([commented(comment) for comment in mailbox.comments])
    return pieces


def _address_piece(mailbox):
    if mailbox.address is None:
        return "<>"
    local, domain = mailbox.address
    address = (local if is_atom(local) else quoted(local)) + "@" + domain
    return address if len(mailbox.label) == 0 else "<" + address + ">"


def _group_pieces(group):
    members = _with_commas([_mailbox_pieces(member) for member in group.members])
    return [*_label_pieces(group.label), ":", *members, ";", *[commented(comment) for comment in group.comments]]


def _with_commas(rows):
    """The pieces of all rows, with a comma behind each row but the last one."""
    pieces = []
    for place, row in enumerate(rows):
        pieces.extend(row)
        if place < len(rows) - 1:
            pieces[-1] = pieces[-1] + ","
    return pieces
