"""Histories: what was begun, answered, cut and told, and whether it could be so."""

from leastspare.errors import InvalidEvents, InvalidTold, TooMany
from leastspare.layouts import is_told, is_wish, with_wish
from leastspare.limits import is_list

MOST_EVENTS = 1000
MOST_POSSIBLE = 2000


def is_history(layout, value):
    """Tell whether any value is a history of a layout."""
    if not is_list(value) or len(value) > MOST_EVENTS:
        return False
    busy = False
    for event in value:
        if not _is_event(layout, event) or not _may_stand(event, busy):
            return False
        busy = event[0] == "wish" or busy and event[0] == "told"
    return True


def could_be(layout, start, events):
    """Return the ascending list of the tuples that the records may have behind all events."""
    possible, _ = _follow(layout, start, events)
    return possible


def is_right(layout, start, events):
    """Tell whether there is at least one such tuple."""
    return first_wrong(layout, start, events) is None


def first_wrong(layout, start, events):
    """Return the index of the first event behind which no tuple is possible, or None."""
    _, wrong = _follow(layout, start, events)
    return wrong


def _is_event(layout, value):
    if not isinstance(value, tuple) or len(value) not in (1, 2):
        return False
    if len(value) == 1:
        return value[0] in ("done", "cut")
    word, given = value
    return word == "wish" and is_wish(layout, given) or word == "told" and is_told(layout, given)


def _may_stand(event, busy):
    """Tell whether an event may stand where a wish is under way, or where none is."""
    if event[0] == "wish":
        return not busy
    return busy or event[0] != "done"


def _follow(layout, start, events):
    """Return what is possible behind all events, and the index of the first one that leaves nothing, or None."""
    if not is_told(layout, start):
        raise InvalidTold(start)
    if not is_history(layout, events):
        raise InvalidEvents(events)
    possible, wish = [start], None
    for at, event in enumerate(events):
        possible = _behind(possible, wish, event)
        if not possible:
            return [], at
        if len(possible) > MOST_POSSIBLE:
            raise TooMany(len(possible))
        if event[0] != "told":
            wish = event[1] if event[0] == "wish" else None
    return possible, None


def _behind(possible, wish, event):
    """Return the ascending list of what is possible behind an event, while this wish is under way, or none is."""
    if event[0] == "told":
        return [told for told in possible if _is_telling(told, wish, event[1])]
    if wish is None:
        # A wish was begun, or power failed between two: nothing came through.
        return possible
    done = [with_wish(told, wish) for told in possible]
    return sorted(set(done)) if event[0] == "done" else sorted(set(possible + done))


def _is_telling(told, wish, telling):
    """Tell whether what is told is what the records had at begin, or that with the wish granted."""
    return telling == told or wish is not None and telling == with_wish(told, wish)
