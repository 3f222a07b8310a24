"""Tables: a value, or none, for each filling of a disk."""

from leastspare.books import Book
from leastspare.disks import all_fillings, count, number_of
from leastspare.errors import InvalidValues, TooMany
from leastspare.figures import figures_of, number_from, power
from leastspare.layouts import disk_of, distance
from leastspare.limits import MOST_VALUES, are_entries, check_listed
from leastspare.plans import read


class Table:
    """The values of the fillings of a disk, in the order of their numbers."""

    def __init__(self, disk, entries):
        check_listed(count(disk))
        if not are_entries(entries, count(disk)):
            raise InvalidValues(entries)
        self.disk = disk
        self.entries = tuple(entries)

    def __eq__(self, other):
        return isinstance(other, Table) and self.disk == other.disk and self.entries == other.entries


def value_at(table, filling):
    """Return the value of a filling, or None."""
    return table.entries[number_of(table.disk, filling)]


def book_of(layout):
    """Return the Book of the numbers of what the records may have, with all changes that a wish can make."""
    size = _count_values(layout)
    tolds = [figures_of(number, layout.records, layout.contents) for number in range(size)]
    pairs = [(one, other) for one in range(size) for other in range(size) if one != other]
    near = [(one, other) for one, other in pairs if distance(layout, tolds[one], tolds[other]) <= layout.changes]
    return Book(size, near)


def table_of(layout):
    """Return the Table that tells for each filling of a layout's disk the number of what is read."""
    _count_values(layout)
    disk = disk_of(layout)
    return Table(disk, [number_from(read(layout, filling), layout.contents) for filling in all_fillings(disk)])


def _count_values(layout):
    """Return how many tuples the records may have; TooMany is raised if a Book cannot have so many values."""
    size = power(layout.contents, layout.records)
    if size > MOST_VALUES:
        raise TooMany(size)
    return size
