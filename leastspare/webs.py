"""Webs of states and steps, where writes are whole: homes, what is safe, and what rings cost."""

from itertools import combinations

from leastspare.books import is_two_way
from leastspare.errors import InvalidCount, InvalidRing, InvalidSteps, InvalidValues, NotKept, TooMany
from leastspare.figures import power
from leastspare.homes import Striking, homes_by, in_book, places_of, strike_all
from leastspare.joins import heads_of
from leastspare.limits import MOST_VALUES, are_entries, is_list, is_pair, is_within
from leastspare.lines import lines_of

MOST_STATES = 200
LEAST_RING = 3

# For each corner of the ball the lesser one of it and the corner opposite to it.
OPPOSITES = (0, 1, 2, 3, 4, 5, 3, 4, 5, 1, 2, 0)


class Web:
    """So many states, and steps between two of them, which can be gone both ways."""

    def __init__(self, states, steps):
        if not is_within(states, 1, MOST_STATES):
            raise InvalidCount(states)
        if not _are_steps(states, steps):
            raise InvalidSteps(steps)
        self.states = states
        self.steps = tuple(sorted(steps))

    def __eq__(self, other):
        return isinstance(other, Web) and self.states == other.states and self.steps == other.steps


def web_of(disk):
    """Return the Web of the numbers of the fillings of a disk, with a step between each two on one line."""
    states = power(disk.contents, disk.blocks)
    if states > MOST_STATES:
        raise TooMany(states)
    return Web(states, [step for row in lines_of(disk) for step in combinations(row, 2)])


def homes(web, values):
    """Return the ascending list of all homes (states, value)."""
    _check_values(web, values)
    return _homes_of(web, values)


def safe_homes(web, values, book):
    """Return the ascending list of the homes of the greatest safe set."""
    return _struck(web, values, book).standing()


def web_keeps(web, values, book):
    """Tell whether each value of the book has a safe home."""
    return _struck(web, values, book).keeps(book)


def web_rings(web):
    """Return the number of rings of a web, as steps and parts count them."""
    return _rings_of(web.states, web.steps)


def book_rings(book):
    """Return the number of rings of a two-way book, as pairs of values and parts count them."""
    if not is_two_way(book):
        raise NotKept("changes")
    return _rings_of(book.size, [(one, other) for one, other in book.changes if one < other])


def ring_values(web, states, count):
    """Return values along a ring with which the web keeps a ring of so many values."""
    if not _is_ring(web, states):
        raise InvalidRing(states)
    if not is_within(count, LEAST_RING, min(len(states), MOST_VALUES)):
        raise InvalidCount(count)
    found = [None] * web.states
    for at, state in enumerate(states):
        found[state] = at * count // len(states)
    return found


def ball():
    """Return the Web of the corners of an icosahedron."""
    steps = [(0, corner) for corner in range(1, 6)] + [(corner, 11) for corner in range(6, 11)]
    steps = steps + [(corner, corner + 1) for corner in [1, 2, 3, 4, 6, 7, 8, 9]] + [(1, 5), (6, 10)]
    steps = steps + [(corner, corner + 5) for corner in range(1, 6)]
    return Web(12, steps + [(corner, corner + 6) for corner in range(1, 5)] + [(5, 6)])


def ball_values():
    """Return values with which the ball keeps any to any of six."""
    return list(OPPOSITES)


def _are_steps(states, value):
    if not is_list(value) or not all([is_pair(step, states, states) and step[0] < step[1] for step in value]):
        return False
    return len(set(value)) == len(value)


def _check_values(web, values):
    if not are_entries(values, web.states):
        raise InvalidValues(values)


def _homes_of(web, entries):
    return homes_by(entries, [(one, other) for one, other in web.steps if entries[one] == entries[other]])


def _struck(web, values, book):
    """Return the Striking of the homes of values of the book, with all struck that are not safe."""
    _check_values(web, values)
    entries = in_book(values, book)
    found = _homes_of(web, entries)
    places = places_of(found, web.states)
    steps = [(places[one], places[other]) for one, other in web.steps if _is_between(entries, one, other)]
    striking = Striking(found, list({tuple(sorted(step)): True for step in steps}), book)
    strike_all(striking, book)
    return striking


def _is_between(entries, one, other):
    """Tell whether two states have different values of the book."""
    return None not in (entries[one], entries[other]) and entries[one] != entries[other]


def _rings_of(many, steps):
    return len(steps) - many + len(set(heads_of(many, steps)))


def _is_ring(web, value):
    if not is_list(value) or len(value) < LEAST_RING:
        return False
    if not all([is_within(state, 0, web.states - 1) for state in value]) or len(set(value)) < len(value):
        return False
    steps = {step: True for step in web.steps}
    return all([tuple(sorted(step)) in steps for step in zip(value, list(value[1:]) + [value[0]])])
