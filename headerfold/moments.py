"""Headers of moments, whose value is None or a moment."""

from headerfold.calendar import date_of, day_number, days_in, is_number_of_day, weekday_of
from headerfold.errors import BadBody, BadContent, BadDate, BadNumber
from headerfold.marks import DIGITS, consists_of, is_between, is_body, is_number, words_of
from headerfold.quoting import enclosed

WEEKDAYS = ("Mon", "Tue", "Wed", "Thu", "Fri", "Sat", "Sun")
MONTHS = ("Jan", "Feb", "Mar", "Apr", "May", "Jun", "Jul", "Aug", "Sep", "Oct", "Nov", "Dec")

_DAY_SECONDS = 86400
_FARTHEST_ZONE = 899


class Moment:
    """A date, a time of the day, and a zone in minutes."""

    def __init__(self, year, month, day, hour=0, minute=0, second=0, *, zone=0):
        self._number = day_number(year, month, day)
        _check_part(hour, 0, 23)
        _check_part(minute, 0, 59)
        _check_part(second, 0, 59)
        _check_part(zone, -_FARTHEST_ZONE, _FARTHEST_ZONE)
        self._date = (year, month, day)
        self._time = (hour, minute, second)
        self._zone = zone

    @property
    def year(self):
        """From 1 to 9999."""
        return self._date[0]

    @property
    def month(self):
        """From 1 to 12."""
        return self._date[1]

    @property
    def day(self):
        """From 1 to the last one of the month."""
        return self._date[2]

    @property
    def hour(self):
        """From 0 to 23."""
        return self._time[0]

    @property
    def minute(self):
        """From 0 to 59."""
        return self._time[1]

    @property
    def second(self):
        """From 0 to 59."""
        return self._time[2]

    @property
    def zone(self):
        """The minutes by which the time is ahead of that of the zone 0."""
        return self._zone

    @property
    def weekday(self):
        """From 0 for Monday to 6 for Sunday."""
        return weekday_of(self._number)

    @property
    def instant(self):
        """The seconds from the beginning of the day number 0 at the zone 0."""
        return self._seconds_there() - self._zone * 60

    def is_before(self, other):
        """Whether this is earlier than the other moment."""
        if not isinstance(other, Moment):
            raise BadContent(other)
        return self.instant < other.instant

    def at_zone(self, zone):
        """The same instant in another zone."""
        _check_part(zone, -_FARTHEST_ZONE, _FARTHEST_ZONE)
        made = _moment_of(self.instant + zone * 60, zone)
        if made is None:
            raise BadNumber(zone)
        return made

    def __add__(self, other):
        if not is_number(other):
            raise BadNumber(other)
        made = _moment_of(self._seconds_there() + other, self._zone)
        if made is None:
            raise BadNumber(other)
        return made

    def __sub__(self, other):
        if not isinstance(other, Moment):
            return NotImplemented
        return self.instant - other.instant

    def __eq__(self, other):
        return (isinstance(other, Moment) and self._date == other._date
                and self._time == other._time and self._zone == other._zone)

    def _seconds_there(self):
        """The seconds from the beginning of the day number 0, both in the zone of this moment."""
        return self._number * _DAY_SECONDS + self.hour * 3600 + self.minute * 60 + self.second


class MomentReading:
    """One reading of a body: its words are taken one by one, its defects are collected on the way."""

    def __init__(self, body):
        self._end = len(body)
        self._found = []
        marks = self._without_comments(body)
        self._words = list(words_of(marks))

    def all_defects(self):
        """The defects so far, in their order."""
        return tuple(sorted(set(self._found)))

    def moment(self):
        """The moment of the body; None if it has none."""
        if len(self._words) == 0:
            return None
        weekday_place, weekday = self._taken_weekday()
        date = self._taken_date()
        if date is None:
            return None
        year, month, day = date
        hour, minute, second = self._taken_time()
        zone = self._taken_zone()
        if len(self._words) > 0:
            self._found.append((self._words[0][0], "extra"))
        made = Moment(year, month, day, hour, minute, second, zone=zone)
        if weekday is not None and weekday != made.weekday:
            self._found.append((weekday_place, "weekday"))
        return made

    def _without_comments(self, body):
        """The body with spaces in place of comments, so that no position changes."""
        marks = []
        place = 0
        while place < len(body):
            if body[place] == "(":
                _, end, has_end = enclosed(body, place)
                if not has_end:
                    self._found.append((place, "comment"))
                marks.append(" " * (end - place))
                place = end
            else:
                marks.append(body[place])
                place = place + 1
        return "".join(marks)

    def _taken_weekday(self):
        """The position and the number of the weekday; None twice if the first word is none."""
        position, word = self._words[0]
        name = word[:3].capitalize()
        if name not in WEEKDAYS or word[3:] not in ("", ","):
            return None, None
        if word[3:] == "":
            self._found.append((position + 3, "comma"))
        self._words = self._words[1:]
        return position, WEEKDAYS.index(name)

    def _taken(self, part):
        """The position of the next word, and what it stands for as this part; None if it is wrong."""
        position, word = self._end, ""
        if len(self._words) > 0:
            position, word = self._words[0]
            self._words = self._words[1:]
        value = _value_of(part, word)
        if value is None:
            self._found.append((position, part))
        return position, value

    def _taken_date(self):
        """The year, the month and the day; None if one of them is wrong."""
        day_place, day = self._taken("day")
        if day is None:
            return None
        _, month = self._taken("month")
        if month is None:
            return None
        year_place, year = self._taken("year")
        if year is None:
            return None
        year = self._in_range(year, 1, 9999, year_place)
        return year, month, self._in_range(day, 1, days_in(year, month), day_place)

    def _taken_time(self):
        """The hour, the minute and the second."""
        position, time = self._taken("time")
        if time is None:
            return 0, 0, 0
        hour, minute, second = time
        return (self._in_range(hour, 0, 23, position), self._in_range(minute, 0, 59, position),
                self._in_range(second, 0, 59, position))

    def _taken_zone(self):
        """The zone in minutes."""
        position, parts = self._taken("zone")
        if parts is None:
            return 0
        sign, hours, minutes = parts
        if hours > 14 or minutes > 59:
            self._found.append((position, "range"))
            return 0
        return sign * (hours * 60 + minutes)

    def _in_range(self, number, low, high, position):
        """The number, or the bound beyond which it is, which is a defect."""
        if number < low or number > high:
            self._found.append((position, "range"))
        return max(low, min(high, number))


def read_moment(body):
    """The moment of a body, or None, and the defects."""
    if not is_body(body):
        raise BadBody(body)
    reading = MomentReading(body)
    made = reading.moment()
    return made, reading.all_defects()


def moment_pieces(moment):
    """The pieces with which a moment, or None, is written."""
    if moment is None:
        return ()
    if not isinstance(moment, Moment):
        raise BadContent(moment)
    sign = "-" if moment.zone < 0 else "+"
    hours, minutes = divmod(abs(moment.zone), 60)
    return (f"{WEEKDAYS[moment.weekday]},", str(moment.day), MONTHS[moment.month - 1], f"{moment.year:04d}",
            f"{moment.hour:02d}:{moment.minute:02d}:{moment.second:02d}", f"{sign}{hours:02d}{minutes:02d}")


def _check_part(thing, low, high):
    if not is_between(thing, low, high):
        raise BadDate(thing)


def _moment_of(seconds, zone):
    """The moment so many seconds behind the beginning of the day number 0 in this zone; None beyond all years."""
    number, rest = divmod(seconds, _DAY_SECONDS)
    if not is_number_of_day(number):
        return None
    year, month, day = date_of(number)
    return Moment(year, month, day, rest // 3600, rest // 60 % 60, rest % 60, zone=zone)


def _value_of(part, word):
    """What a word stands for as this part of a moment; None if it has not the form."""
    if part == "day":
        return _number_in(word, 1, 2)
    if part == "month":
        name = word.capitalize()
        return MONTHS.index(name) + 1 if name in MONTHS else None
    if part == "year":
        return _number_in(word, 4, 4)
    if part == "time":
        return _time_in(word)
    return _zone_in(word)


def _number_in(word, shortest, longest):
    """The number of a word of so many digits."""
    if shortest <= len(word) <= longest and consists_of(word, DIGITS):
        return int(word)
    return None


def _time_in(word):
    """The hour, the minute and the second of a word, which may have no seconds."""
    parts = word.split(":")
    if len(parts) not in (2, 3):
        return None
    numbers = [_number_in(part, 2, 2) for part in parts]
    if None in numbers:
        return None
    return tuple((numbers + [0])[:3])


def _zone_in(word):
    """The sign, the hours and the minutes of a word."""
    if word == "UT":
        return 1, 0, 0
    if len(word) != 5 or word[0] not in "+-" or not consists_of(word[1:], DIGITS):
        return None
    return 1 if word[0] == "+" else -1, int(word[1:3]), int(word[3:])
