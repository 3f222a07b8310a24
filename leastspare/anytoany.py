"""Tables that keep as many values any to any as can be on few blocks, and tables by the classes of contents."""

from leastspare.books import any_to_any
from leastspare.disks import Disk, all_fillings, class_of
from leastspare.errors import InvalidBlocks, OtherDisk, TooMany
from leastspare.figures import number_from, power
from leastspare.limits import MOST_VALUES, is_within
from leastspare.tables import Table, value_at
from leastspare.twoblocks import two_blocks

MOST_HALF = 3
MOST_ANY_BLOCKS = 3

# Values by the classes of three blocks: each value has two classes that differ in all three.
BY_THREE_CLASSES = (0, 1, 2, 3, 3, 2, 1, 0)


def copies_table(half, contents):
    """Return the Table of two copies of so many blocks, of which the mark in the last block tells the one to read."""
    if not is_within(half, 1, MOST_HALF):
        raise InvalidBlocks(half)
    disk = Disk(2 * half + 1, contents)
    values = power(contents, half) + 1
    if values > MOST_VALUES:
        raise TooMany(values)
    return Table(disk, [_told_by_copies(disk, half, filling) for filling in all_fillings(disk)])


def greatest_any(blocks, contents):
    """Return the greatest number of values that can be kept any to any on one, two or three blocks."""
    if not is_within(blocks, 1, MOST_ANY_BLOCKS):
        raise InvalidBlocks(blocks)
    disk = Disk(blocks, contents)
    return max(4, disk.contents + 1) if blocks == 3 else blocks + 1


def any_table(blocks, contents):
    """Return a Table that keeps so many values any to any."""
    values = greatest_any(blocks, contents)
    if blocks == 1:
        return by_classes(Table(Disk(1, 2), [0, 1]), contents)
    if blocks == 2:
        return two_blocks(any_to_any(values), contents)
    if values == 4:
        return by_classes(Table(Disk(3, 2), BY_THREE_CLASSES), contents)
    return copies_table(1, contents)


def by_classes(table, contents):
    """Return the Table that tells for a filling what a table of bits tells for the classes of its contents."""
    if table.disk.contents != 2:
        raise OtherDisk(table.disk)
    disk = Disk(table.disk.blocks, contents)
    return Table(disk, [value_at(table, _classes_of(disk, filling)) for filling in all_fillings(disk)])


def _told_by_copies(disk, half, filling):
    if class_of(disk, filling[-1]) == 0:
        return number_from(filling[:half], disk.contents)
    return number_from(filling[half:-1], disk.contents) + 1


def _classes_of(disk, filling):
    return tuple([class_of(disk, content) for content in filling])
