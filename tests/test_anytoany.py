"""Points 151 to 153, and what points 2, 7 to 10 say of tables any to any."""

import unittest
from itertools import product

from leastspare.anytoany import any_table, by_classes, copies_table, greatest_any
from leastspare.books import any_to_any
from leastspare.disks import Disk
from leastspare.errors import InvalidBlocks, InvalidContents, OtherDisk
from leastspare.judge import keeps, safe
from leastspare.tables import Table
from leastspare.twoblocks import two_blocks
from tests.board import books_of, figure, tables_on
from tests.support import NO_INTEGERS, no_fillings, no_lists, raises, raises_too_many

# For each half the contents with which the values and the fillings are few enough.
HALVES = [(1, contents) for contents in range(2, 28)] + [(2, contents) for contents in range(2, 8)] + [(3, 2), (3, 3)]


def told_by_copies(half, contents, filling):
    first, second, mark = filling[:half], filling[half:2 * half], filling[-1]
    return figure(second, contents) + 1 if mark >= contents // 2 else figure(first, contents)


class Examples(unittest.TestCase):
    def test_of_the_interface(self):
        self.assertEqual(copies_table(1, 2).entries, (0, 1, 0, 2, 1, 1, 1, 2))
        told = [greatest_any(1, 9), greatest_any(2, 9), greatest_any(3, 3), greatest_any(3, 9), any_table(1, 3).entries]
        self.assertEqual(told, [2, 3, 4, 10, (0, 1, 1)])
        self.assertEqual(any_table(3, 2).entries, (0, 1, 2, 3, 3, 2, 1, 0))
        self.assertEqual(by_classes(Table(Disk(1, 2), [5, None]), 4).entries, (5, 5, None, None))
        with raises_too_many(self, 65):
            copies_table(2, 8)


class Copies(unittest.TestCase):
    def test_entry_by_entry(self):
        for half, contents in HALVES:
            blocks = 2 * half + 1
            table = copies_table(half, contents)
            entries = [told_by_copies(half, contents, filling) for filling in product(range(contents), repeat=blocks)]
            self.assertEqual(table, Table(Disk(blocks, contents), entries))

    def test_kept_any_to_any(self):
        for half, contents in HALVES:
            table, book = copies_table(half, contents), any_to_any(contents ** half + 1)
            if len(table.entries) * 2 * (book.size - 1) <= 400000:
                self.assertIs(keeps(table, book), True)
                self.assertEqual(safe(table, book), list(range(len(table.entries))))

    def test_one_value_more_put_anywhere(self):
        # Not of three blocks of bits, which keep four values, and so one more than this table has.
        for half, contents in [(1, 3), (1, 4), (1, 5), (2, 2)]:
            table, values = copies_table(half, contents), contents ** half + 1
            for at in range(len(table.entries)):
                entries = list(table.entries)
                entries[at] = values
                self.assertEqual(safe(Table(table.disk, entries), any_to_any(values + 1)), [])

    def test_the_bounds(self):
        for half, contents in [(1, 2), (1, 27), (2, 2), (2, 7), (3, 2), (3, 3)]:
            self.assertEqual(copies_table(half, contents).disk, Disk(2 * half + 1, contents))
        for half, contents in [(1, 64), (2, 8), (2, 64), (3, 4), (3, 64)]:
            with raises_too_many(self, contents ** half + 1):
                copies_table(half, contents)
        for contents in range(28, 64):
            with raises_too_many(self, contents ** 3):
                copies_table(1, contents)

    def test_errors_in_order(self):
        for half in [0, 4, -1, 10 ** 60, *NO_INTEGERS]:
            for contents in (2, 64, 1, None):
                with self.subTest(half), raises(self, InvalidBlocks, "given", half):
                    copies_table(half, contents)
        for half in (1, 2, 3):
            for contents in [1, 0, 65, -2, 10 ** 60, *NO_INTEGERS]:
                with self.subTest(contents), raises(self, InvalidContents, "given", contents):
                    copies_table(half, contents)
        for value in no_lists() + no_fillings():
            if not isinstance(value, int) or isinstance(value, bool) or not 1 <= value <= 3:
                for call in (copies_table, greatest_any, any_table):
                    with self.subTest(value), raises(self, InvalidBlocks, "given", value):
                        call(value, 2)

    def test_by_name(self):
        self.assertEqual(copies_table(contents=3, half=1), copies_table(1, 3))
        self.assertEqual(greatest_any(contents=3, blocks=1), 2)
        self.assertEqual(any_table(contents=3, blocks=2), any_table(2, 3))
        table = Table(Disk(1, 2), [1, 0])
        self.assertEqual(by_classes(contents=3, table=table).entries, (1, 0, 0))


class Greatest(unittest.TestCase):
    def test_for_one_to_three_blocks(self):
        for contents in range(2, 65):
            told = [greatest_any(blocks, contents) for blocks in (1, 2, 3)]
            self.assertEqual(told, [2, 3, 4 if contents <= 3 else contents + 1])

    def test_errors_in_order(self):
        for call in (greatest_any, any_table):
            for blocks in [0, 4, -1, 10 ** 60, *NO_INTEGERS]:
                for contents in (2, 64, 1, None):
                    with self.subTest(blocks), raises(self, InvalidBlocks, "given", blocks):
                        call(blocks, contents)
            for blocks in (1, 2, 3):
                for contents in [1, 0, 65, -2, 10 ** 60, *NO_INTEGERS]:
                    with self.subTest(contents), raises(self, InvalidContents, "given", contents):
                        call(blocks, contents)

    def test_refused_tables(self):
        for contents in range(28, 64):
            with raises_too_many(self, contents ** 3):
                any_table(3, contents)
        with raises_too_many(self, 65):
            any_table(3, 64)

    def test_entry_by_entry(self):
        by_three = {"AAA": 0, "BBB": 0, "AAB": 1, "BBA": 1, "ABA": 2, "BAB": 2, "ABB": 3, "BAA": 3}
        for contents in range(2, 65):
            letters = ["A" if content < contents // 2 else "B" for content in range(contents)]
            self.assertEqual(any_table(1, contents),
                             Table(Disk(1, contents), [{"A": 0, "B": 1}[letter] for letter in letters]))
            by_two = {"AA": 0, "AB": 0, "BA": 1, "BB": 2}
            entries = [by_two[one + other] for one, other in product(letters, repeat=2)]
            self.assertEqual(any_table(2, contents), Table(Disk(2, contents), entries))
            self.assertEqual(any_table(2, contents), two_blocks(any_to_any(3), contents))
            if contents < 4:
                entries = [by_three["".join(three)] for three in product(letters, repeat=3)]
                self.assertEqual(any_table(3, contents), Table(Disk(3, contents), entries))
            elif contents < 28:
                entries = [told_by_copies(1, contents, filling) for filling in product(range(contents), repeat=3)]
                self.assertEqual(any_table(3, contents), Table(Disk(3, contents), entries))

    def test_kept_any_to_any_of_so_many_values(self):
        for blocks, contents in product((1, 2, 3), [2, 3, 4, 5, 6, 7, 15, 64]):
            if blocks < 3 or contents < 28:
                table, book = any_table(blocks, contents), any_to_any(greatest_any(blocks, contents))
                self.assertIs(keeps(table, book), True)
                self.assertEqual(safe(table, book), list(range(contents ** blocks)))

    def test_no_table_of_bits_keeps_more(self):
        # Over all tables of one and two blocks, and those of three blocks with each of five values at least once.
        for entries in product(range(3), repeat=2):
            self.assertIs(keeps(Table(Disk(1, 2), entries), any_to_any(3)), False)
        for entries in product(range(4), repeat=4):
            self.assertIs(keeps(Table(Disk(2, 2), entries), any_to_any(4)), False)
        for more in product(range(5), repeat=3):
            for order in [(0, 1, 2, 3, 4), (0, 2, 1, 4, 3), (3, 1, 4, 0, 2), (0, 0, 1, 2, 3)]:
                self.assertIs(keeps(Table(Disk(3, 2), order + more), any_to_any(5)), False)


class Classes(unittest.TestCase):
    def test_entry_by_entry(self):
        for blocks in (1, 2, 3, 4):
            for table, _ in tables_on(Disk(blocks, 2), 153 + blocks):
                for contents in (2, 3, 4, 5, 6):
                    made = by_classes(table, contents)
                    entries = [table.entries[figure([content >= contents // 2 for content in filling], 2)]
                               for filling in product(range(contents), repeat=blocks)]
                    self.assertEqual(made, Table(Disk(blocks, contents), entries))

    def test_with_two_contents_it_is_the_same_table(self):
        for table, _ in tables_on(Disk(4, 2), 1):
            self.assertEqual(by_classes(table, 2), table)

    def test_what_is_safe(self):
        kept = set()
        for blocks, contents in [(1, 3), (1, 5), (2, 3), (2, 4), (3, 3), (3, 2), (4, 3)]:
            for at, (table, size) in enumerate(tables_on(Disk(blocks, 2), 154 + blocks)):
                made = by_classes(table, contents)
                fillings = list(product(range(contents), repeat=blocks))
                for book in books_of(size, at):
                    torn = safe(table, book)
                    self.assertEqual(safe(table, book, torn=False), torn)
                    expected = [number for number, filling in enumerate(fillings)
                                if figure([content >= contents // 2 for content in filling], 2) in torn]
                    self.assertEqual(safe(made, book), expected)
                    self.assertIs(keeps(made, book), keeps(table, book))
                    kept.add(keeps(table, book))
        self.assertEqual(kept, {True, False})

    def test_errors_in_order(self):
        for disk in (Disk(1, 3), Disk(2, 64), Disk(3, 27), Disk(1, 64)):
            table = Table(disk, [0] * disk.contents ** disk.blocks)
            for contents in (2, 64, 1, 65, None):
                with raises(self, OtherDisk, "disk", disk):
                    by_classes(table, contents)
        for blocks in (1, 3, 14):
            table = Table(Disk(blocks, 2), [0] * 2 ** blocks)
            for contents in [1, 0, 65, -2, 10 ** 60, *NO_INTEGERS]:
                with self.subTest(contents), raises(self, InvalidContents, "given", contents):
                    by_classes(table, contents)
        for blocks, contents in [(3, 28), (3, 64), (14, 3), (14, 64), (4, 12), (10, 3), (9, 4)]:
            table = Table(Disk(blocks, 2), [0] * 2 ** blocks)
            with raises_too_many(self, contents ** blocks):
                by_classes(table, contents)
        for blocks, contents in [(3, 27), (2, 64), (14, 2), (4, 11), (9, 3)]:
            table = Table(Disk(blocks, 2), [at % 64 for at in range(2 ** blocks)])
            self.assertEqual(len(by_classes(table, contents).entries), contents ** blocks)

    def test_the_table_stays(self):
        table = Table(Disk(2, 2), [0, 1, 2, None])
        by_classes(table, 5)
        self.assertEqual(table, Table(Disk(2, 2), [0, 1, 2, None]))
