"""Homes: things of one value that hang together; and how those are struck that can not change as a book asks.

A bad piece of a change (x, y) has fillings of x alone, and what would join it to other ones of x that stand is
not there: so it is always one whole home of x. Homes are therefore found once; they are struck whole or stay.
"""

from heapq import heapify, heappop, heappush

from leastspare.joins import heads_of


class Striking:
    """Homes, those of them that stand, and the links that still join them to homes of other values.

    A link is a tuple of homes of two values. It is there as long as all its homes stand. Its sides are tuples of
    one of its homes and the value to which the link joins this one.
    """

    def __init__(self, homes, links, book):
        self.homes = homes
        self.stands = [True] * len(homes)
        self._links = _asked_for(homes, links, book)
        self._is_whole = [True] * len(self._links)
        self._touching = [[] for _ in homes]
        self._left = {}
        for at, sides in enumerate(self._links):
            for side in sides:
                self._touching[side[0]].append(at)
                self._left[side] = self._left.get(side, 0) + 1

    def is_bad(self, home, other):
        """Tell whether a home stands and has no link to a home of the other value."""
        return self.stands[home] and self._left.get((home, other), 0) == 0

    def strike(self, home):
        """Let a home stand no longer; return the tuples (home, value) that have lost the last link by this."""
        self.stands[home] = False
        lost = []
        for at in self._touching[home]:
            if self._is_whole[at]:
                self._is_whole[at] = False
                lost.extend([side for side in self._links[at] if self._loosen(side)])
        return lost

    def standing(self):
        """Return the list of the homes that stand, in order."""
        return [home for home, stands in zip(self.homes, self.stands) if stands]

    def keeps(self, book):
        """Tell whether each value of a book has a home that stands."""
        return len(set([value for _, value in self.standing()])) == book.size

    def _loosen(self, side):
        self._left[side] = self._left[side] - 1
        return self._left[side] == 0


def in_book(entries, book):
    """Return the entries with None for all that are no values of the book."""
    return [None if entry is None or entry >= book.size else entry for entry in entries]


def homes_by(entries, groups):
    """Return the ascending list of the homes (things, value), where these groups of one value each hang together."""
    members = {}
    for thing, head in enumerate(heads_of(len(entries), groups)):
        if entries[thing] is not None:
            members.setdefault(head, []).append(thing)
    return [(tuple(members[head]), entries[head]) for head in members]


def places_of(homes, many):
    """Return for each of so many things the index of its home, or None."""
    found = [None] * many
    for at, (things, _) in enumerate(homes):
        for thing in things:
            found[thing] = at
    return found


def strike_all(striking, book):
    """Strike all bad homes, in rounds, and return the tuples (change, home) in the order in which it was done."""
    turns = {change: at for at, change in enumerate(book.changes)}
    ahead = _bad_at_first(striking, book)
    heapify(ahead)
    found = []
    while ahead:
        turn, at, home = heappop(ahead)
        if striking.stands[home]:
            found.append((book.changes[at], striking.homes[home]))
            for near, other in striking.strike(home):
                later = turns.get((striking.homes[near][1], other))
                if later is not None:
                    # A change that has had its turn in this round waits for the next one.
                    heappush(ahead, (turn if later > at else turn + 1, later, near))
    return found


def _bad_at_first(striking, book):
    """Return the list of the tuples (0, index of a change, home) of all bad homes."""
    turns_of = [[] for _ in range(book.size)]
    for at, (one, other) in enumerate(book.changes):
        turns_of[one].append((at, other))
    return [(0, at, home) for home, (_, value) in enumerate(striking.homes)
            for at, other in turns_of[value] if striking.is_bad(home, other)]


def _asked_for(homes, links, book):
    """Return the sides of each link between whose two values the book has a change."""
    changes = {change: True for one, other in book.changes for change in [(one, other), (other, one)]}
    found = []
    for link in links:
        one, other = sorted(set([homes[home][1] for home in link]))
        if (one, other) in changes:
            found.append([(home, other if homes[home][1] == one else one) for home in link])
    return found
