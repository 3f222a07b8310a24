"""An examiner of all cuts: what they leave while groups of writes are done, and how it reads."""

from leastspare.cuts import behind, behind_all, choices_of, is_left, list_left, number_left
from leastspare.disks import is_filling, is_write
from leastspare.errors import InvalidFilling, InvalidGroups, InvalidWish
from leastspare.layouts import disk_of, is_wish, with_wish
from leastspare.limits import check_listed, is_list
from leastspare.plans import plan, read

MOST_GROUPS = 8
MOST_WRITES = 24


def left_by(disk, filling, groups, *, torn=True):
    """Return the ascending list of all fillings that a cut may leave at any moment of these groups."""
    if not is_filling(disk, filling):
        raise InvalidFilling(filling)
    _check_groups(disk, groups)
    return _list_moments(disk, filling, groups, torn)


def examine(layout, filling, wish, *, torn=True):
    """Return how many fillings a cut may leave during a plan: those that read as before, as wished, otherwise."""
    groups = plan(layout, filling, wish)
    lefts = _list_moments(disk_of(layout), filling, groups, torn)
    old = read(layout, filling)
    new = with_wish(old, wish)
    tolds = [read(layout, left) for left in lefts]
    as_old = len([told for told in tolds if told == old])
    as_new = len([told for told in tolds if told == new and told != old])
    return as_old, as_new, len(tolds) - as_old - as_new


def first_other(layout, filling, wish, groups, *, torn=True):
    """Return the least filling that a cut may leave and that reads neither as before nor as wished, or None."""
    _check_handed(layout, filling, wish, groups)
    old = read(layout, filling)
    new = with_wish(old, wish)
    for left in _list_moments(disk_of(layout), filling, groups, torn):
        if read(layout, left) not in (old, new):
            return left
    return None


def is_done_by(layout, filling, wish, groups, *, torn=True):
    """Tell whether these groups do the wish, whatever is cut."""
    if first_other(layout, filling, wish, groups, torn=torn) is not None:
        return False
    return read(layout, behind_all(filling, groups)) == with_wish(read(layout, filling), wish)


def may_leave(disk, filling, groups, value, torn):
    """Tell whether a filling of a disk is one that left_by lists, also where these are too many to list them."""
    return value == filling or any([is_left(choices, value) for choices in _choices_in(disk, filling, groups, torn)])


def is_row_of_groups(disk, value):
    """Tell whether any value is a row of groups of writes of a disk."""
    if not is_list(value) or len(value) > MOST_GROUPS:
        return False
    return all([_is_group(disk, group) for group in value])


def _is_group(disk, value):
    if not is_list(value) or len(value) > MOST_WRITES:
        return False
    return all([is_write(disk, write) for write in value])


def _check_groups(disk, groups):
    if not is_row_of_groups(disk, groups):
        raise InvalidGroups(groups)


def _check_handed(layout, filling, wish, groups):
    disk = disk_of(layout)
    if not is_filling(disk, filling):
        raise InvalidFilling(filling)
    if not is_wish(layout, wish):
        raise InvalidWish(wish)
    _check_groups(disk, groups)


def _list_moments(disk, filling, groups, torn):
    """Return what left_by does, of what is known to be right."""
    rows = _choices_in(disk, filling, groups, torn)
    check_listed(sum([number_left(choices) for choices in rows]))
    found = [left for choices in rows for left in list_left(choices)]
    # Without groups there is still the moment ahead of them.
    return sorted(set([filling] + found))


def _choices_in(disk, filling, groups, torn):
    """Return for each group the choices that a cut has in each block at the group's last moment."""
    rows = []
    now = filling
    for group in groups:
        # What a cut may leave grows with each write of a group, so all moments of the group are in its last one.
        rows.append(choices_of(disk, now, group, torn))
        now = behind(now, group)
    return rows
