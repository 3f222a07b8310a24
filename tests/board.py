"""Tables as the document tells of them, by fillings and lines: pieces, striking in any order, ways."""

from itertools import permutations, product

from leastspare.books import Book, any_to_any, ring, row, star
from leastspare.disks import Disk
from leastspare.tables import Table
from tests.support import fixed_numbers


class Board:
    """The fillings of a table by their numbers, its lines, and a book."""

    def __init__(self, table, book):
        self.table, self.book = table, book
        self.fillings = list(product(range(table.disk.contents), repeat=table.disk.blocks))
        self.entries = table.entries
        numbers = {filling: number for number, filling in enumerate(self.fillings)}
        # For each filling and block, the numbers of the line through it.
        self.line_of = {}
        for number, filling in enumerate(self.fillings):
            for block in range(table.disk.blocks):
                self.line_of[number, block] = [numbers[filling[:block] + (content,) + filling[block + 1:]]
                                               for content in range(table.disk.contents)]
        self.lines = sorted({tuple(line) for line in self.line_of.values()})

    def at_first(self):
        return {number for number, entry in enumerate(self.entries) if entry in range(self.book.size)}

    def pieces(self, standing, change, torn):
        """All pieces of a change, ascending, each as an ascending list."""
        members = [number for number in sorted(standing) if self.entries[number] in change]
        near = {number: set() for number in members}
        for line in self.lines:
            met = [number for number in line if number in near]
            if not torn or len(met) == len(line):
                for number in met:
                    near[number].update(met)
        found, seen = [], set()
        for number in members:
            if number not in seen:
                piece, ahead = {number}, [number]
                while ahead:
                    new = near[ahead.pop()] - piece
                    piece |= new
                    ahead += new
                seen |= piece
                found.append(sorted(piece))
        return found

    def bad_pieces(self, standing, change, torn):
        return [piece for piece in self.pieces(standing, change, torn)
                if {self.entries[number] for number in piece} == {change[0]}]

    def strike(self, torn, choose):
        """Strike one bad piece after the other, the one that is chosen of the list of all."""
        standing, found = self.at_first(), []
        while True:
            bad = [(change, piece) for change in self.book.changes
                   for piece in self.bad_pieces(standing, change, torn)]
            if not bad:
                return sorted(standing), found
            found.append(choose(bad))
            standing -= set(found[-1][1])

    def rounds(self, torn):
        """What is struck in rounds."""
        standing, found, many = self.at_first(), [], -1
        while len(found) > many:
            many = len(found)
            for change in self.book.changes:
                bad = self.bad_pieces(standing, change, torn)
                found += [(change, piece) for piece in bad]
                standing -= {number for piece in bad for number in piece}
        return found

    def keeps(self, standing):
        return {self.entries[number] for number in standing} == set(range(self.book.size))

    def is_refutation(self, value, torn):
        """Whether a list of tuples (change, numbers) of the right kinds is one."""
        standing = self.at_first()
        for change, numbers in value:
            if change not in self.book.changes or numbers not in self.bad_pieces(standing, change, torn):
                return False
            standing -= set(numbers)
        return not self.keeps(standing)

    def is_way(self, safe, number, other, writes, torn):
        """Whether a list of writes of the disk is a way."""
        old, now = self.entries[number], number
        for at, (block, content) in enumerate(writes):
            line = self.line_of[now, block]
            now = line[content]
            if torn and not all(near in safe and self.entries[near] in (old, other) for near in line):
                return False
            if now not in safe or self.entries[now] != (other if at == len(writes) - 1 else old):
                return False
        return len(writes) > 0


def sizes():
    """Disks of 2 to 32 fillings."""
    return [Disk(*pair) for pair in [(1, 2), (1, 3), (1, 5), (1, 32), (2, 2), (2, 3), (2, 4), (2, 5), (3, 2), (3, 3),
                                     (4, 2), (5, 2)]]


def figure(contents, base):
    number = 0
    for content in contents:
        number = number * base + content
    return number


def tables_on(disk, seed):
    """Tables of many kinds on a disk, with the number of their values."""
    fillings = list(product(range(disk.contents), repeat=disk.blocks))
    half, numbers = disk.contents // 2, fixed_numbers(seed)
    kinds = [
        [figure([content >= half for content in filling], 2) % 60 for filling in fillings],
        [filling[0] + 1 if filling[-1] else 0 for filling in fillings],
        [filling[0] + 1 if filling[-1] >= half else 0 for filling in fillings],
        [(1 + filling[-2] if filling[-1] >= half else filling[0]) if disk.blocks > 1 else filling[0]
         for filling in fillings],
        [filling[0] for filling in fillings],
        [figure(filling[:2], disk.contents) % 60 for filling in fillings],
        [sum(filling) % 2 for filling in fillings],
        [sum(filling) % 3 for filling in fillings],
        [sum(filling) % disk.contents for filling in fillings],
    ]
    for many in (2, 3, 4, 3, 2):
        kinds.append([next(numbers) % many for _ in fillings])
    # With none, and with values that no book of this test has.
    for entries in list(kinds):
        changed = [None if next(numbers) % 9 == 0 else entry for entry in entries]
        kinds.append([60 + next(numbers) % 4 if next(numbers) % 9 == 0 else entry for entry in changed])
    for entries in kinds:
        size = 1 + max([entry for entry in entries if entry is not None and entry < 60], default=0)
        yield Table(disk, entries), min(size, 60)


def books_of(size, seed):
    """Books of about so many values: all changes, one way, both ways, none, and drawn ones."""
    numbers = fixed_numbers(seed)
    pairs = list(permutations(range(size), 2))
    up = [(one, one + 1) for one in range(size - 1)]
    drawn = [pair for pair in pairs if next(numbers) % (size + 1) < 2]
    books = [Book(size, pairs), Book(size, up), Book(size, drawn), Book(size, []), row(size), star(size - 1)]
    books.append(Book(size, up + [(size - 1, 0)] if size > 1 else []))
    if size >= 3:
        books.append(ring(size))
    if size > 2:
        books += [any_to_any(size - 1), Book(size - 1, [pair for pair in drawn if max(pair) < size - 1])]
    return books + [Book(size + 1, drawn), Book(size + 1, drawn + [(size, 0)]), Book(size + 1, [(0, size)])]


def cases(seed):
    """Boards of small tables of all kinds, with books of all kinds."""
    for at, disk in enumerate(sizes()):
        for place, (table, size) in enumerate(tables_on(disk, seed + at)):
            for book in books_of(min(size, 8), seed + at + 100 * place):
                yield Board(table, book)
