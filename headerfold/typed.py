"""Typed headers, whose value is a main with parameters."""

from headerfold.encoded import best_choice, first_word
from headerfold.errors import BadBody, BadContent, BadKey, BadMain, BadParameter, BadText, BadWidth, NoKey
from headerfold.laying import is_width
from headerfold.marks import is_body
from headerfold.parts import end_of_values, is_key, is_main, part_read, parts_cut
from headerfold.quoting import quoted
from headerfold.texts import Text

_DEFAULT_MAIN = "text"


class Typed:
    """A main and parameters, which are pairs of a key and a text."""

    def __init__(self, main, parameters=()):
        if not is_main(main):
            raise BadMain(main)
        _check_parameters(parameters)
        self._main = main
        self._parameters = parameters

    @classmethod
    def of(cls, main, **texts):
        """The main with parameters that are given by name, as bodies."""
        if not is_main(main):
            raise BadMain(main)
        pairs = []
        for key, body in texts.items():
            if not is_key(key):
                raise BadKey(key)
            # What is no body raises the error that is due here.
            pairs.append((key, Text(body)))
        return cls(main, tuple(pairs))

    @property
    def main(self):
        """The main."""
        return self._main

    @property
    def parameters(self):
        """The tuple of the pairs."""
        return self._parameters

    @property
    def key_names(self):
        """The tuple of the keys."""
        return tuple([key for key, _ in self._parameters])

    def put(self, key, text):
        """The same with this text for the key, in its old place or at the end."""
        if not is_key(key):
            raise BadKey(key)
        if not isinstance(text, Text):
            raise BadText(text)
        pairs = [(one, text if one == key else old) for one, old in self._parameters]
        if key not in self.key_names:
            pairs.append((key, text))
        return Typed(self._main, tuple(pairs))

    def without(self, key):
        """The same without this key."""
        if not _is_among(key, self.key_names):
            raise NoKey(key)
        return Typed(self._main, tuple([(one, text) for one, text in self._parameters if one != key]))

    def __getitem__(self, at):
        names = self.key_names
        if not _is_among(at, names):
            raise NoKey(at)
        _, text = self._parameters[names.index(at)]
        return text

    # Without this, Python would read the items one by one from 0 on.
    def __iter__(self):
        raise TypeError("a typed value is not iterable")

    def __len__(self):
        return len(self._parameters)

    def __contains__(self, key):
        return _is_among(key, self.key_names)

    def __eq__(self, other):
        return isinstance(other, Typed) and self._main == other._main and self._parameters == other._parameters


def read_typed(body):
    """The typed value of a body, and the defects."""
    if not is_body(body):
        raise BadBody(body)
    cut, defects = parts_cut(body)
    main, faults = _main_read(cut[0])
    defects.extend(faults)
    parts = []
    for position, marks, stop in cut[1:]:
        if marks == "":
            defects.append((stop, "empty"))
            continue
        part, faults = part_read(position, marks)
        defects.extend(faults)
        if part is not None:
            parts.append(part)
    parameters, faults = _parameters_of(parts)
    defects.extend(faults)
    return Typed(main, tuple(parameters)), tuple(sorted(set(defects)))


def typed_pieces(typed, *, width=78):
    """The pieces with which a typed value is written."""
    if not isinstance(typed, Typed):
        raise BadContent(typed)
    if not is_width(width):
        raise BadWidth(width)
    pieces = [typed.main]
    # A space and a semicolon must have place on the line, too.
    for key, text in typed.parameters:
        pieces.extend(_pieces_of(key, text, width - 2))
    return tuple([piece + ";" for piece in pieces[:-1]] + pieces[-1:])


def _is_among(thing, names):
    """Whether this is a string among these, which are strings."""
    return isinstance(thing, str) and thing in names


def _check_parameters(parameters):
    if not isinstance(parameters, tuple):
        raise BadParameter(None)
    names = []
    for place, pair in enumerate(parameters):
        if not _is_pair(pair) or pair[0] in names:
            raise BadParameter(place)
        names.append(pair[0])


def _is_pair(thing):
    """Whether this is a key and a text."""
    return isinstance(thing, tuple) and len(thing) == 2 and is_key(thing[0]) and isinstance(thing[1], Text)


def _main_read(part):
    """The main that the first part gives, and its defects."""
    position, marks, stop = part
    end = end_of_values(marks, 0)
    defects = []
    if marks == "":
        defects.append((stop, "main"))
    elif end < len(marks):
        defects.append((position + end, "main"))
    return marks[:end] if end > 0 else _DEFAULT_MAIN, defects


def _parameters_of(parts):
    """The pairs of the keys and the texts that parts give together, and the defects."""
    rows = {}
    for part in parts:
        rows.setdefault(part.key, []).append(part)
    pairs = []
    defects = []
    for key, row in rows.items():
        if row[0].number is None:
            text = row[0].text
            defects.extend([(part.position, "double") for part in row[1:]])
        else:
            text, faults = _sections_joined(row)
            defects.extend(faults)
        if text is not None:
            pairs.append((key, text))
    return pairs, defects


def _sections_joined(row):
    """The text of the sections of one key, or None without the first section, and the defects."""
    sections = {}
    defects = []
    for part in row:
        if part.number is None or part.number in sections:
            defects.append((part.position, "double"))
        else:
            sections[part.number] = part
    many = 0
    codes = []
    while many in sections:
        codes.extend(sections[many].text.codes)
        many = many + 1
    defects.extend([(part.position, "section") for number, part in sections.items() if number >= many])
    return (Text.of(tuple(codes)) if many > 0 else None), defects


def _pieces_of(key, text, limit):
    """The pieces of one parameter, each of at most so many characters."""
    if not text.is_plain:
        return _word_pieces(key, text, limit)
    marks = str(text)
    piece = f"{key}={_form(marks)}"
    return [piece] if len(piece) <= limit else _form_sections(key, marks, limit)


def _form(marks):
    """The marks as they are, or quoted."""
    return marks if is_main(marks) else quoted(marks)


def _form_sections(key, marks, limit):
    pieces = []
    rest = marks
    while rest != "":
        front = f"{key}*{len(pieces)}="
        many = 1
        while many < len(rest) and len(front + _form(rest[:many + 1])) <= limit:
            many = many + 1
        pieces.append(front + _form(rest[:many]))
        rest = rest[many:]
    return pieces


def _word_pieces(key, text, limit):
    """The pieces of a text that is a stretch: a single one if it is a single word that fits."""
    charset, coding = best_choice(text)
    front = f"{key}*="
    word, rest = first_word(charset, coding, text, limit - len(front))
    if len(rest) == 0:
        return [front + word]
    pieces = []
    rest = text
    while len(rest) > 0:
        front = f"{key}*{len(pieces)}*="
        word, rest = first_word(charset, coding, rest, limit - len(front))
        pieces.append(front + word)
    return pieces
