"""Sessions: a store that is worked by lines of text, and what comes of many lines."""

from leastspare.disks import count, filling_at
from leastspare.drives import Drive
from leastspare.errors import BadLine, InvalidNames, InvalidText, SpareError, TooMany
from leastspare.layouts import MOST_RECORDS, Layout, disk_of
from leastspare.limits import is_list
from leastspare.stores import Store

LETTERS = "abcdefghijklmnopqrstuvwxyz"
DIGITS = "0123456789"
MOST_SIGNS = 12
MOST_LINES = 400

# No number of a filling has more digits; the words of a line may.
MOST_DIGITS = 60


class Session:
    """Records with names on a drive of their own, which has 0 everywhere at first."""

    def __init__(self, names, changes, contents, *, torn=True):
        if not _are_names(names):
            raise InvalidNames(names)
        self.layout = Layout(len(names), changes, contents)
        self._names = list(names)
        self._disk = disk_of(self.layout)
        self._drive = Drive(self._disk, (0,) * self._disk.blocks, torn=torn)
        self._store = Store(self._drive, self.layout)

    def do(self, line):
        """Do what a line says, and return what it tells."""
        text, _ = self.perform(line)
        return text

    def perform(self, line):
        """Do what a line says; return what it tells, and the list of the events that it makes."""
        order = self._order_of(line)
        if order is None:
            raise InvalidText(line)
        word, given = order
        if word == "set":
            self._store.change(given)
            return "done", [("wish", given), ("done",)]
        if word == "begin":
            self._store.begin(given)
            return "begun", [("wish", given)]
        if word == "step":
            return self._step()
        if word == "show":
            return self._show(given)
        if word == "left":
            return str(len(self._drive.left())), []
        if word == "cut":
            self._store.cut(given)
            return "cut", [("cut",)]
        return self._rest()

    def _order_of(self, line):
        """Return the tuple of a word and what is given for it by a line, or None for any value that is no line."""
        words = line.split(" ") if isinstance(line, str) else [""]
        word, more = words[0], words[1:]
        if word in ("set", "begin"):
            wish = self._wish_in(more)
            return None if wish is None else (word, wish)
        if word == "cut" and len(more) == 1:
            number = _number_in(more[0], count(self._disk))
            return None if number is None else (word, filling_at(self._disk, number))
        if word == "show" and len(more) == 1:
            return (word, self._names.index(more[0])) if more[0] in self._names else None
        return (word, None) if word in ("step", "show", "left", "rest") and len(more) == 0 else None

    def _wish_in(self, words):
        """Return the wish that names and contents, by turns, make, or None if they make none."""
        names, contents = words[::2], [_number_in(word, self.layout.contents) for word in words[1::2]]
        if len(names) != len(contents) or not 1 <= len(names) <= self.layout.changes or None in contents:
            return None
        if not all([name in self._names for name in names]) or len(set(names)) < len(names):
            return None
        return sorted([(self._names.index(name), content) for name, content in zip(names, contents)])

    def _step(self):
        step = self._store.step()
        return " ".join([str(part) for part in step]), [step] if step == ("done",) else []

    def _rest(self):
        text, events = self._step()
        while not events:
            text, events = self._step()
        return text, events

    def _show(self, record):
        told = self._store.records()
        if record is not None:
            return str(told[record]), [("told", told)]
        pairs = [f"{name} {content}" for name, content in zip(self._names, told)]
        return " ".join(pairs), [("told", told)]


def play(names, changes, contents, lines, *, torn=True):
    """Return the list of what a new session tells for each of these lines."""
    return [text for text, _ in _performed(names, changes, contents, lines, torn)]


def history_of(names, changes, contents, lines, *, torn=True):
    """Return the list of the events of such a play."""
    return [event for _, events in _performed(names, changes, contents, lines, torn) for event in events]


def _performed(names, changes, contents, lines, torn):
    """Return for each line what it tells and the list of its events."""
    session = Session(names, changes, contents, torn=torn)
    if len(lines) > MOST_LINES:
        raise TooMany(len(lines))
    found = []
    for at, line in enumerate(lines):
        try:
            found.append(session.perform(line))
        except SpareError:
            raise BadLine(at)
    return found


def _are_names(value):
    if not is_list(value) or not 1 <= len(value) <= MOST_RECORDS or not all([_is_name(name) for name in value]):
        return False
    return len(set(value)) == len(value)


def _is_name(value):
    if not isinstance(value, str) or not 1 <= len(value) <= MOST_SIGNS:
        return False
    return value[0] in LETTERS and all([sign in LETTERS + DIGITS for sign in value])


def _number_in(word, many):
    """Return the number below so many that a word writes, or None for any other word."""
    if not 1 <= len(word) <= MOST_DIGITS or not all([sign in DIGITS for sign in word]):
        return None
    if word[0] == "0" and word != "0" or int(word) >= many:
        return None
    return int(word)
