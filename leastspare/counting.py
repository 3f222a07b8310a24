"""Counts: how many spare blocks are needed and enough, and how many lines a table of a disk has for its values."""

from math import comb, isqrt

from leastspare.errors import InvalidChanges, InvalidContents, InvalidRecords
from leastspare.figures import count_differing, figures_needed, power
from leastspare.limits import LEAST_CONTENTS, is_within
from leastspare.lines import kinds_on, lines_of

# More than a Layout may have.
MOST_RECORDS_COUNTED = 1000
MOST_CONTENTS_COUNTED = 10000


def wishes(records, changes, contents):
    """Return how many tuples differ from what the records have in one to `changes` of them."""
    _check_counts(records, changes, contents)
    return count_differing(records, changes, contents)


def least_needed(records, changes, contents):
    """Return a number of spare blocks below which no store has."""
    many = wishes(records, changes, contents)
    if contents == 2 and changes == 1:
        return 0
    needed, fillings = 1, 1
    while many > 2 * (records + needed - 1) * fillings:
        needed += 1
        fillings = fillings * contents
    return needed


def enough(records, changes, contents):
    """Return the number of spare blocks of the store that this package has."""
    _check_counts(records, changes, contents)
    return changes + figures_needed(comb(records, changes), contents) + 1


def is_above(records, changes, contents):
    """Tell whether there are so many contents that more spare blocks than changes are needed."""
    _check_counts(records, changes, contents)
    sets = comb(records, changes)
    return contents * sets > changes * sets + 2 * (records + changes - 1)


def line_count(disk):
    """Return the number of the lines of a disk."""
    return disk.blocks * power(disk.contents, disk.blocks - 1)


def most_values(disk):
    """Return the greatest number of values that counting lines does not exclude from being kept any to any."""
    pairs = 2 * (disk.blocks - 1) * power(disk.contents, disk.blocks - 1)
    # The greatest v with v * (v - 1) <= pairs, which is (2 * v - 1) ** 2 <= 4 * pairs + 1.
    return max(disk.blocks + 1, (isqrt(4 * pairs + 1) + 1) // 2)


def pair_lines(table, book):
    """Return the dict that has for each two values with a change, as a text, the number of lines of just these."""
    found = {tuple(sorted(change)): 0 for change in book.changes}
    for kinds in _kinds_by_line(table):
        pair = () if None in kinds else tuple(sorted(kinds))
        if pair in found:
            found[pair] += 1
    return {f"{one} {other}": found[one, other] for one, other in found}


def own_lines(table):
    """Return the number of the lines all of whose fillings have the same value."""
    return len([kinds for kinds in _kinds_by_line(table) if len(kinds) == 1 and None not in kinds])


def _kinds_by_line(table):
    return [kinds_on(row, table.entries) for row in lines_of(table.disk)]


def _check_counts(records, changes, contents):
    if not is_within(records, 1, MOST_RECORDS_COUNTED):
        raise InvalidRecords(records)
    if not is_within(changes, 1, records):
        raise InvalidChanges(changes)
    if not is_within(contents, LEAST_CONTENTS, MOST_CONTENTS_COUNTED):
        raise InvalidContents(contents)
