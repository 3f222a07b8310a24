"""Writers: store programs for a disk, and how they are broken by wishes and cuts."""

from leastspare.disks import count
from leastspare.errors import InvalidMemories, InvalidNumber, InvalidRules, InvalidValue, InvalidValues, OtherDisk
from leastspare.homes import in_book
from leastspare.judge import kept_values, safe
from leastspare.limits import MOST_VALUES, check_listed, is_list, is_within
from leastspare.runs import Run, Search
from leastspare.ways import writes_toward

MOST_MEMORIES = 64
MOST_EVENTS = 40000


class Writer:
    """What a store program does next at each filling, for each value wished and each content of its memory."""

    def __init__(self, disk, size, memories, rules):
        if not is_within(size, 1, MOST_VALUES):
            raise InvalidValues(size)
        if not is_within(memories, 1, MOST_MEMORIES):
            raise InvalidMemories(memories)
        check_listed(count(disk) * size * memories)
        if not _are_rules(disk, size, memories, rules):
            raise InvalidRules(rules)
        self.disk = disk
        self.size = size
        self.memories = memories
        self.rules = tuple([tuple([tuple(row) for row in rows]) for rows in rules])

    def __eq__(self, other):
        return (isinstance(other, Writer) and self.disk == other.disk and self.size == other.size
                and self.memories == other.memories and self.rules == other.rules)


def is_run(table, book, writer, start, value):
    """Tell whether any value is a run of a writer from this start."""
    _check_run(table, book, writer, start)
    return _breaking_places(table, book, writer, start, value) is not None


def breaks(table, book, writer, start, value):
    """Tell whether any value is a run of which the last event, and none ahead of it, breaks the writer."""
    _check_run(table, book, writer, start)
    places = _breaking_places(table, book, writer, start, value)
    return places is not None and len(places) == 1 and places[0] == len(value) - 1


def breaking_run(table, book, writer, start):
    """Return a run from this start that breaks the writer, or None if there is none."""
    _check_run(table, book, writer, start)
    return Search(table, book, writer, start).breaking()


def writer_for(table, book):
    """Return a Writer, without use of a memory, that no run from any safe filling breaks."""
    many = count(table.disk)
    check_listed(many * book.size)
    kept = kept_values(table, safe(table, book))
    rules = [[[None] for _ in range(book.size)] for _ in range(many)]
    for old, wished in book.changes:
        for number, (block, content) in writes_toward(table.disk, kept, old, wished, True).items():
            rules[number][wished] = [(block, content, 0)]
    return Writer(table.disk, book.size, 1, rules)


def _are_rules(disk, size, memories, value):
    if not _is_list_of(value, count(disk)) or not all([_is_list_of(rows, size) for rows in value]):
        return False
    if not all([_is_list_of(row, memories) for rows in value for row in rows]):
        return False
    return all([_is_rule(disk, memories, rule) for rows in value for row in rows for rule in row])


def _is_list_of(value, length):
    return is_list(value) and len(value) == length


def _is_rule(disk, memories, value):
    """Tell whether any value is a tuple (block, content, memory), or None."""
    if value is None:
        return True
    if not isinstance(value, tuple) or len(value) != 3:
        return False
    limits = (disk.blocks, disk.contents, memories)
    return all([is_within(number, 0, limit - 1) for number, limit in zip(value, limits)])


def _check_run(table, book, writer, start):
    if writer.disk != table.disk:
        raise OtherDisk(writer.disk)
    if not is_within(start, 0, len(table.entries) - 1) or in_book(table.entries, book)[start] is None:
        raise InvalidNumber(start)
    if writer.size < book.size:
        raise InvalidValue(writer.size)


def _breaking_places(table, book, writer, start, value):
    """Return the list of the indexes of the events that break the writer, or None for what is no run."""
    if not is_list(value) or len(value) > MOST_EVENTS:
        return None
    run = Run(table, book, writer, start)
    found = []
    for at, event in enumerate(value):
        if not run.may_follow(event):
            return None
        if run.take(event):
            found.append(at)
    return found
