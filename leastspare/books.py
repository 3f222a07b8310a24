"""Books: values and the changes between them that are asked for."""

from leastspare.errors import InvalidCount, InvalidPairs, InvalidValue, InvalidValues
from leastspare.joins import heads_of
from leastspare.limits import MOST_VALUES, is_list, is_pair, is_within


class Book:
    """So many values, and changes: ordered pairs of different values."""

    def __init__(self, size, changes):
        if not is_within(size, 1, MOST_VALUES):
            raise InvalidValues(size)
        if not _are_changes(size, changes):
            raise InvalidPairs(changes)
        self.size = size
        self.changes = tuple(sorted(changes))

    def __eq__(self, other):
        return isinstance(other, Book) and self.size == other.size and self.changes == other.changes


def wishes_of(book, value):
    """Return the ascending list of the values to which this one may change."""
    if not is_within(value, 0, book.size - 1):
        raise InvalidValue(value)
    return [other for one, other in book.changes if one == value]


def is_two_way(book):
    """Tell whether each change may be made back, too."""
    return sorted([(other, one) for one, other in book.changes]) == list(book.changes)


def parts(book):
    """Return the ascending list of the ascending lists of the values that hang together."""
    heads = heads_of(book.size, book.changes)
    return [[value for value in range(book.size) if heads[value] == head] for head in sorted(set(heads))]


def any_to_any(count):
    """Return the Book of so many values with all changes between them."""
    _check_count(count, 1)
    return Book(count, [(one, other) for one in range(count) for other in range(count) if one != other])


def star(leaves):
    """Return the Book of 0 and so many others, with all changes between 0 and one of these."""
    if not is_within(leaves, 0, MOST_VALUES - 1):
        raise InvalidCount(leaves)
    return _both_ways(leaves + 1, [(0, leaf) for leaf in range(1, leaves + 1)])


def row(count):
    """Return the Book of so many values with all changes between one of them and the next one."""
    _check_count(count, 1)
    return _both_ways(count, _neighbours(count))


def ring(count):
    """Return the Book of so many values in a row, with the changes between the last one and 0, too."""
    _check_count(count, 3)
    return _both_ways(count, _neighbours(count) + [(count - 1, 0)])


def _are_changes(size, value):
    if not is_list(value) or not all([_is_change(size, change) for change in value]):
        return False
    return len(set(value)) == len(value)


def _is_change(size, value):
    return is_pair(value, size, size) and value[0] != value[1]


def _check_count(count, least):
    if not is_within(count, least, MOST_VALUES):
        raise InvalidCount(count)


def _neighbours(count):
    return [(value, value + 1) for value in range(count - 1)]


def _both_ways(size, pairs):
    return Book(size, pairs + [(other, one) for one, other in pairs])
