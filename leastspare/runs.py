"""Runs of a writer: which events may come next, which of them break it, and a search for one that does."""

from leastspare.books import wishes_of
from leastspare.limits import is_within
from leastspare.lines import line_at


class Run:
    """A writer at work on the fillings of a table, event by event."""

    def __init__(self, table, book, writer, start):
        self._table = table
        self._changes = {change: True for change in book.changes}
        self._size = book.size
        self._rules = writer.rules
        self._number = start
        self._memory = 0
        # While a wish is under way, its old value and its wished one.
        self._change = None
        # The tuples (number, memory) that were met since this wish began.
        self._met = {}

    def may_follow(self, event):
        """Tell whether any value is an event that may come next."""
        if not isinstance(event, tuple):
            return False
        if self._change is None:
            return len(event) == 2 and event[0] == "wish" and self._may_be_wished(event[1])
        rule = self._rule()
        if rule is None:
            return event == ("done",)
        if len(event) == 2:
            return event[0] == "cut" and _is_among(self._line(rule), event[1])
        if len(event) == 3:
            return event[0] == "write" and _is_among([rule[0]], event[1]) and _is_among([rule[1]], event[2])
        return False

    def take(self, event):
        """Go on by an event that may come next, and tell whether it breaks the writer."""
        change = self._change
        if event[0] == "wish":
            self._change = (self._value(), event[1])
            self._met = {(self._number, self._memory): True}
            return False
        if event[0] == "write":
            rule = self._rule()
            self._number, self._memory = self._line(rule)[rule[1]], rule[2]
            return self._value() not in change or self._is_met_again()
        self._change = None
        if event[0] == "done":
            return self._value() != change[1]
        self._number, self._memory = event[1], 0
        return self._value() not in change

    def _value(self):
        return self._table.entries[self._number]

    def _rule(self):
        return self._rules[self._number][self._change[1]][self._memory]

    def _line(self, rule):
        return line_at(self._table.disk, self._number, rule[0])

    def _may_be_wished(self, value):
        return is_within(value, 0, self._size - 1) and (self._value(), value) in self._changes

    def _is_met_again(self):
        pair = (self._number, self._memory)
        if pair in self._met:
            return True
        self._met[pair] = True
        return False


class Search:
    """A search for a run that breaks a writer.

    It goes through points: (number, memory) between wishes, (number, memory, old value, wished value) within one.
    Only the way by which a point was first come to is kept. It meets no point twice, so no run gets too long.
    """

    def __init__(self, table, book, writer, start):
        self._table = table
        self._rules = writer.rules
        self._wishes = [wishes_of(book, value) for value in range(book.size)]
        # How each point was first come to: the point ahead of it, the event, and the wish within which it was.
        self._came = {(start, 0): None}
        self._idle = [(start, 0)]

    def breaking(self):
        """Return the events of a run that breaks the writer, or None."""
        at = 0
        while at < len(self._idle):
            number, memory = self._idle[at]
            for wished in self._wishes[self._table.entries[number]]:
                found = self._follow(number, memory, wished)
                if found is not None:
                    return found
            at += 1
        return None

    def _follow(self, number, memory, wished):
        """Go through a wish, to its end or to a point that is known; return a run that breaks the writer, or None."""
        old, wish = self._table.entries[number], (number, memory, wished)
        point, behind, event = (number, memory, old, wished), (number, memory), ("wish", wished)
        while point not in self._came:
            self._came[point] = (behind, event, wish)
            rule = self._rules[point[0]][wished][point[1]]
            if rule is None:
                return self._answer(point)
            row = line_at(self._table.disk, point[0], rule[0])
            for near in row:
                if self._table.entries[near] not in (old, wished):
                    return self._events_to(point) + [("cut", near)]
                self._reach((near, 0), point, ("cut", near))
            behind, event = point, ("write", rule[0], rule[1])
            point = (row[rule[1]], rule[2], old, wished)
        # A point of this very wish closes a circle. One of another wish is known to lead to an answer.
        return self._events_to(behind) + [event] if self._came[point][2] == wish else None

    def _answer(self, point):
        """Return a run that breaks the writer by its answer at this point, or None."""
        if self._table.entries[point[0]] != point[3]:
            return self._events_to(point) + [("done",)]
        self._reach((point[0], point[1]), point, ("done",))
        return None

    def _reach(self, idle, behind, event):
        if idle not in self._came:
            self._came[idle] = (behind, event, None)
            self._idle.append(idle)

    def _events_to(self, point):
        events = []
        now = point
        while self._came[now] is not None:
            now, event, _ = self._came[now]
            events.append(event)
        return events[::-1]


def _is_among(numbers, value):
    return is_within(value, 0, max(numbers)) and value in numbers
