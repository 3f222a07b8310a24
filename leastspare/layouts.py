"""Layouts: records and the blocks that keep them, what records have, and wishes to change them."""

from math import comb

from leastspare.disks import Disk
from leastspare.errors import InvalidChanges, InvalidContents, InvalidRecords, InvalidTold, InvalidWish, TooFar
from leastspare.figures import are_figures, count_differing, figures_needed
from leastspare.limits import LEAST_CONTENTS, MOST_CONTENTS
from leastspare.limits import check_listed, is_ascending, is_list, is_pair, is_within

MOST_RECORDS = 8


class Layout:
    """So many records, of which so many may be changed at once, each with one of so many contents."""

    def __init__(self, records, changes, contents):
        if not is_within(records, 1, MOST_RECORDS):
            raise InvalidRecords(records)
        if not is_within(changes, 1, records):
            raise InvalidChanges(changes)
        if not is_within(contents, LEAST_CONTENTS, MOST_CONTENTS):
            raise InvalidContents(contents)
        self.records = records
        self.changes = changes
        self.contents = contents
        self.places = figures_needed(comb(records, changes), contents)
        self.spare = changes + self.places + 1

    def __eq__(self, other):
        return (isinstance(other, Layout) and self.records == other.records
                and self.changes == other.changes and self.contents == other.contents)


def disk_of(layout):
    """Return the disk of a layout: a block for each record, and the spare blocks."""
    return Disk(layout.records + layout.spare, layout.contents)


def roles(layout):
    """Return the blocks of the records, the news and the places, each as a list, and the mark."""
    news = layout.records
    places = news + layout.changes
    mark = places + layout.places
    return list(range(news)), list(range(news, places)), list(range(places, mark)), mark


def is_told(layout, value):
    """Tell whether any value is a tuple of what the records may have."""
    return are_figures(value, layout.records, layout.contents)


def is_wish(layout, value):
    """Tell whether any value is a wish."""
    if not is_list(value) or len(value) > layout.changes:
        return False
    if not all([is_pair(item, layout.records, layout.contents) for item in value]):
        return False
    return is_ascending([record for record, _ in value])


def granted(layout, told, wish):
    """Return what the records have behind a wish."""
    if not is_told(layout, told):
        raise InvalidTold(told)
    if not is_wish(layout, wish):
        raise InvalidWish(wish)
    return with_wish(told, wish)


def with_wish(told, wish):
    """Return what granted does, of what is known to be right."""
    contents = list(told)
    for record, content in wish:
        contents[record] = content
    return tuple(contents)


def distance(layout, one, other):
    """Return the number of the records that have different contents in one and in other."""
    return len(_differing(layout, one, other))


def wish_between(layout, one, other):
    """Return the wish that leads from one to other."""
    wish = _differing(layout, one, other)
    if len(wish) > layout.changes:
        raise TooFar(len(wish))
    return wish


def all_wishes(layout, told):
    """Return the ascending list of all wishes that change each of their records, and at least one."""
    if not is_told(layout, told):
        raise InvalidTold(told)
    check_listed(count_differing(layout.records, layout.changes, layout.contents))
    found = [[]]
    for record in range(layout.records):
        others = [content for content in range(layout.contents) if content != told[record]]
        begun = [wish for wish in found if len(wish) < layout.changes]
        found = found + [wish + [(record, content)] for wish in begun for content in others]
    return sorted(found)[1:]


def _differing(layout, one, other):
    """Return the items of a wish from one to other, however many they are."""
    if not is_told(layout, one):
        raise InvalidTold(one)
    if not is_told(layout, other):
        raise InvalidTold(other)
    return [(record, other[record]) for record in range(layout.records) if one[record] != other[record]]
