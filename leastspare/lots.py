"""Lots: sets of as many records as a wish may change, their numbers, and their codes in the places."""

from itertools import combinations
from math import comb

from leastspare.errors import InvalidCodes, InvalidLot, InvalidNumber, InvalidWish
from leastspare.figures import are_figures, figures_of, number_from
from leastspare.layouts import is_wish
from leastspare.limits import is_ascending, is_list, is_within


def is_lot(layout, value):
    """Tell whether any value is a lot."""
    if not is_list(value) or len(value) != layout.changes:
        return False
    if not all([is_within(record, 0, layout.records - 1) for record in value]):
        return False
    return is_ascending(value)


def lots(layout):
    """Return the number of the lots of a layout."""
    return comb(layout.records, layout.changes)


def lot_at(layout, number):
    """Return the lot with this number."""
    if not is_within(number, 0, lots(layout) - 1):
        raise InvalidNumber(number)
    return _all_lots(layout.records, layout.changes)[number]


def lot_number(layout, lot):
    """Return the number of a lot."""
    if not is_lot(layout, lot):
        raise InvalidLot(lot)
    return _all_lots(layout.records, layout.changes).index(list(lot))


def code_of(layout, lot):
    """Return the code of a lot: a content for each place."""
    return figures_of(lot_number(layout, lot), layout.places, layout.contents)


def lot_told(layout, codes):
    """Return the lot that any contents of the places tell."""
    if not are_figures(codes, layout.places, layout.contents):
        raise InvalidCodes(codes)
    return lot_at(layout, number_from(codes, layout.contents) % lots(layout))


def lot_for(layout, wish):
    """Return the lot of all records of a wish and, for the rest, the least other ones."""
    if not is_wish(layout, wish):
        raise InvalidWish(wish)
    wished = [record for record, _ in wish]
    others = [record for record in range(layout.records) if record not in wished]
    return sorted(wished + others[:layout.changes - len(wished)])


def _all_lots(records, size):
    """Return the lots in the order of their numbers, which is the one that combinations has."""
    return [list(lot) for lot in combinations(range(records), size)]
