"""What a filling means, and the groups of writes by which a store does a wish."""

from leastspare.disks import class_of, is_filling
from leastspare.errors import InvalidFilling, InvalidWish
from leastspare.layouts import disk_of, is_wish, roles, with_wish
from leastspare.lots import code_of, lot_for, lot_told


def read(layout, filling):
    """Return what the records have by a filling."""
    _check_filling(layout, filling)
    return _told_by(layout, filling)


def plan(layout, filling, wish):
    """Return the four groups of writes that do a wish from a filling."""
    _check_filling(layout, filling)
    if not is_wish(layout, wish):
        raise InvalidWish(wish)
    if len(wish) == 0:
        return [[], [], [], []]
    mark = roles(layout)[3]
    # A record's own block has the record's number, so what the news tell are the writes home, too.
    home = _news_of(layout, filling)
    # Behind group 0 both classes of the mark read alike, so that any cut of its write does no harm;
    # then neither news nor places count, until the mark is written again.
    away = [(mark, 0)] if _is_by_news(layout, filling) else []
    return [home, away, _spread(layout, _told_by(layout, filling), wish), [(mark, layout.contents // 2)]]


def _check_filling(layout, filling):
    if not is_filling(disk_of(layout), filling):
        raise InvalidFilling(filling)


def _told_by(layout, filling):
    return with_wish(filling[:layout.records], _news_of(layout, filling))


def _is_by_news(layout, filling):
    """Tell whether the mark has class B, so that the news count."""
    return class_of(disk_of(layout), filling[roles(layout)[3]]) == 1


def _news_of(layout, filling):
    """Return the tuples (record, content) of what the news tell; there are none if the mark has class A."""
    if not _is_by_news(layout, filling):
        return []
    _, news, places, _ = roles(layout)
    lot = lot_told(layout, tuple([filling[block] for block in places]))
    return [(record, filling[block]) for record, block in zip(lot, news)]


def _spread(layout, told, wish):
    """Return the writes of group 2: the records of a lot go to the news, and its code to the places."""
    _, news, places, _ = roles(layout)
    lot = lot_for(layout, wish)
    behind = with_wish(told, wish)
    contents = [behind[record] for record in lot]
    return list(zip(news, contents)) + list(zip(places, code_of(layout, lot)))
