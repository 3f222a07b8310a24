"""The judge of tables: what is safe for a book, why a book is not kept, and ways from value to value."""

from itertools import combinations

from leastspare.disks import is_write
from leastspare.errors import InvalidNumber, InvalidValue, NotSafe, TooMany
from leastspare.homes import Striking, homes_by, in_book, places_of, strike_all
from leastspare.limits import is_list, is_pair, is_within
from leastspare.lines import kinds_on, line_at, lines_of
from leastspare.ways import is_open, writes_toward

MOST_JUDGED = 400000


def safe(table, book, *, torn=True):
    """Return the ascending list of the numbers of the fillings of the greatest safe set."""
    striking, _ = _all_struck(table, book, torn)
    return sorted([number for numbers, _ in striking.standing() for number in numbers])


def keeps(table, book, *, torn=True):
    """Tell whether each value of the book has a safe filling."""
    striking, _ = _all_struck(table, book, torn)
    return striking.keeps(book)


def struck(table, book, *, torn=True):
    """Return the list of the tuples (change, numbers) of the pieces that are struck, in rounds."""
    _, pieces = _all_struck(table, book, torn)
    return pieces


def refutation(table, book, *, torn=True):
    """Return pieces that can be struck so that some value has no filling left, or None if the book is kept."""
    striking, pieces = _all_struck(table, book, torn)
    return None if striking.keeps(book) else pieces


def is_refutation(table, book, value, *, torn=True):
    """Tell whether any value is a list of such pieces."""
    _check_sum(table, book)
    if not is_list(value):
        return False
    striking = _all_standing(table, book, torn)
    places = places_of(striking.homes, len(table.entries))
    changes = {change: True for change in book.changes}
    for item in value:
        if not _is_piece(item, book.size, len(table.entries)) or item[0] not in changes:
            return False
        home = _bad_home(striking, places, item)
        if home is None:
            return False
        striking.strike(home)
    return not striking.keeps(book)


def way(table, book, number, other, *, torn=True):
    """Return writes that lead from a safe filling to one of another value, through safe ones of its own value."""
    kept = _kept_for_way(table, book, number, other, torn)
    toward = writes_toward(table.disk, kept, kept[number], other, torn)
    found = []
    now = number
    while kept[now] != other:
        block, content = toward[now]
        found.append((block, content))
        now = line_at(table.disk, now, block)[content]
    return found


def is_way(table, book, number, other, value, *, torn=True):
    """Tell whether any value is a list of such writes, with whatever detours."""
    kept = _kept_for_way(table, book, number, other, torn)
    if not is_list(value):
        return False
    now = number
    for write in value:
        if kept[now] == other or not is_write(table.disk, write):
            return False
        row = line_at(table.disk, now, write[0])
        if not is_open(kept, row, kept[number], other, torn):
            return False
        now = row[write[1]]
        if kept[now] not in (kept[number], other):
            return False
    return kept[now] == other


def _check_sum(table, book):
    many = [0] * book.size
    for entry in in_book(table.entries, book):
        if entry is not None:
            many[entry] += 1
    judged = sum([many[one] + many[other] for one, other in book.changes])
    if judged > MOST_JUDGED:
        raise TooMany(judged)


def _kept_for_way(table, book, number, other, torn):
    """Return for each filling its value if it is safe, and None if not, when the arguments of a way are right."""
    numbers = safe(table, book, torn=torn)
    if not is_within(number, 0, len(table.entries) - 1):
        raise InvalidNumber(number)
    kept = kept_values(table, numbers)
    if kept[number] is None:
        raise NotSafe(number)
    if not is_within(other, 0, book.size - 1) or (kept[number], other) not in book.changes:
        raise InvalidValue(other)
    return kept


def kept_values(table, numbers):
    """Return for each filling its value if its number is among these, and None if not."""
    found = [None] * len(table.entries)
    for number in numbers:
        found[number] = table.entries[number]
    return found


def _all_standing(table, book, torn):
    """Return the Striking of the homes of a table, with nothing struck."""
    entries = in_book(table.entries, book)
    rows = lines_of(table.disk)
    homes = homes_by(entries, [group for row in rows for group in _groups_on(row, entries, torn)])
    places = places_of(homes, len(entries))
    # Many lines join the same homes.
    links = {link: True for row in rows for link in _links_on(row, entries, places, torn)}
    return Striking(homes, list(links), book)


def _all_struck(table, book, torn):
    """Return the Striking with all bad homes struck, and the struck pieces in order."""
    _check_sum(table, book)
    striking = _all_standing(table, book, torn)
    pieces = [(change, list(numbers)) for change, (numbers, _) in strike_all(striking, book)]
    return striking, pieces


def _groups_on(row, entries, torn):
    """Return the lists of the fillings of one value that a line joins."""
    if torn is True:
        return [row] if len(kinds_on(row, entries)) == 1 else []
    found = {}
    for number in row:
        found.setdefault(entries[number], []).append(number)
    return list(found.values())


def _links_on(row, entries, places, torn):
    """Return the links of a line: if writes are torn, all its homes are in one, or it is none."""
    met = sorted([home for home in kinds_on(row, places) if home is not None])
    if torn is not True:
        return list(combinations(met, 2))
    values = kinds_on(row, entries)
    return [tuple(met)] if len(values) == 2 and None not in values else []


def _is_piece(value, size, many):
    """Tell whether any value has the form of a tuple (change, numbers)."""
    if not isinstance(value, tuple) or len(value) != 2:
        return False
    change, numbers = value
    if not is_pair(change, size, size) or not is_list(numbers) or len(numbers) == 0:
        return False
    return all([is_within(number, 0, many - 1) for number in numbers])


def _bad_home(striking, places, piece):
    """Return the home that is this bad piece, or None."""
    (one, other), numbers = piece
    home = places[numbers[0]]
    if home is None or striking.homes[home] != (tuple(numbers), one) or not striking.is_bad(home, other):
        return None
    return home
