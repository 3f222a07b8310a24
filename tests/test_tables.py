"""Points 103 and 104, and what points 2, 8, 9 and 10 say of tables."""

import unittest
from itertools import permutations, product

from leastspare.books import Book, any_to_any, parts
from leastspare.disks import Disk
from leastspare.errors import InvalidFilling, InvalidValues
from leastspare.layouts import Layout
from leastspare.tables import Table, book_of, table_of, value_at
from tests.model import Model
from tests.support import NO_INTEGERS, all_fillings, fixed_numbers, no_fillings, no_lists, raises, raises_too_many


class Examples(unittest.TestCase):
    def test_of_the_interface(self):
        table = Table(Disk(2, 2), [0, 0, 1, None])
        told = [value_at(table, (1, 0)), value_at(table, (1, 1)), table_of(Layout(1, 1, 2)).entries]
        self.assertEqual(told, [1, None, (0, 0, 0, 1, 1, 0, 1, 1)])
        book = book_of(Layout(1, 1, 3))
        told = [book.size, book.changes, len(book_of(Layout(2, 1, 3)).changes)]
        self.assertEqual(told, [3, ((0, 1), (0, 2), (1, 0), (1, 2), (2, 0), (2, 1)), 36])
        with raises_too_many(self, 125):
            table_of(Layout(3, 1, 5))


class Tables(unittest.TestCase):
    def test_entries_of_every_kind(self):
        for entries in ([0, 63, None, 1], [None] * 4, [63] * 4, (0, 1, 2, 3)):
            table = Table(Disk(2, 2), entries)
            self.assertEqual((table.disk, table.entries), (Disk(2, 2), tuple(entries)))
            self.assertIs(type(table.entries), tuple)

    def test_every_entry_counts(self):
        for blocks, contents in [(1, 2), (1, 64), (3, 3), (4, 2), (2, 9)]:
            disk, many = Disk(blocks, contents), contents ** blocks
            for at in range(many):
                for value in (0, 63, None):
                    self.assertEqual(Table(disk, [5] * at + [value] + [5] * (many - at - 1)).entries[at], value)
                for value in (64, -1, 10 ** 60, True, False, "1", [1], (1,), {}, 1.0, Disk(1, 2)):
                    wrong = [5] * at + [value] + [5] * (many - at - 1)
                    with self.subTest(value), raises(self, InvalidValues, "given", wrong):
                        Table(disk, wrong)

    def test_too_many_or_too_few(self):
        for blocks, contents in [(1, 2), (2, 3), (3, 4), (14, 2)]:
            for many in (0, 1, contents ** blocks - 1, contents ** blocks + 1):
                for wrong in ([0] * many, (None,) * many):
                    with raises(self, InvalidValues, "given", wrong):
                        Table(Disk(blocks, contents), wrong)

    def test_what_is_no_list(self):
        for value in no_lists() + [[], (), [[0, 0]], [[0], [0]], {"a": 0, "b": 1}, "01"]:
            with self.subTest(value), raises(self, InvalidValues, "given", value):
                Table(Disk(1, 2), value)

    def test_the_greatest_disks(self):
        for blocks, contents in [(9, 3), (14, 2), (3, 27), (2, 64), (1, 64), (4, 11)]:
            many = contents ** blocks
            entries = [at % 65 if at % 65 < 64 else None for at in range(many)]
            table = Table(Disk(blocks, contents), entries)
            self.assertEqual(table.entries, tuple(entries))
            self.assertEqual(value_at(table, (contents - 1,) * blocks), entries[-1])

    def test_too_many_fillings_are_judged_first(self):
        for blocks, contents in [(4, 12), (15, 2), (3, 28), (24, 64)]:
            for entries in ([], None, [64], True, [0] * 20001):
                with raises_too_many(self, contents ** blocks):
                    Table(Disk(blocks, contents), entries)
        with raises_too_many(self, 20736):
            Table(Disk(4, 12), [0] * 20736)

    def test_by_name(self):
        table = Table(entries=[1, 0], disk=Disk(1, 2))
        self.assertEqual(table.entries, (1, 0))
        self.assertEqual(value_at(filling=(0,), table=table), 1)
        self.assertEqual(book_of(layout=Layout(1, 1, 2)), any_to_any(2))
        self.assertEqual(len(table_of(layout=Layout(1, 1, 2)).entries), 8)

    def test_the_list_that_is_passed_may_change(self):
        entries = [0, 1]
        table = Table(Disk(1, 2), entries)
        entries[0] = 9
        entries.append(None)
        self.assertEqual(table.entries, (0, 1))

    def test_equal_exactly_if_both_are(self):
        kinds = [((1, 4), (0, 0, 0, 0)), ((2, 2), (0, 0, 0, 0)), ((2, 2), (0, 0, 0, None)), ((2, 2), (0, 0, 0, 1))]
        for one, other in product(kinds, kinds):
            tables = [Table(Disk(*disk), entries) for disk, entries in (one, other)]
            self.assertIs(tables[0] == tables[1], one == other)
            self.assertIs(tables[0] != tables[1], one != other)
        self.assertIs(Table(Disk(1, 2), [0, 1]) == Table(Disk(1, 2), (0, 1)), True)

    def test_unequal_to_all_else(self):
        table = Table(Disk(1, 2), [0, 1])
        for value in no_fillings() + [(0, 1), [0, 1], (Disk(1, 2), (0, 1)), Disk(1, 2), Book(2, [(0, 1)])]:
            self.assertIs(table == value, False)
            self.assertIs(value == table, False)
            self.assertIs(table != value, True)


class Values(unittest.TestCase):
    def test_of_each_filling(self):
        for blocks, contents in [(1, 5), (2, 3), (3, 3), (5, 2)]:
            disk, numbers = Disk(blocks, contents), fixed_numbers(103)
            entries = [next(numbers) % 64 if next(numbers) % 4 else None for _ in range(contents ** blocks)]
            table = Table(disk, entries)
            self.assertEqual([value_at(table, filling) for filling in all_fillings(disk)], entries)

    def test_of_what_is_no_filling(self):
        table = Table(Disk(2, 2), [0, 0, 1, None])
        wrong = [[1, 0], (1,), (1, 0, 0), (1, 2), (-1, 0), (True, 0), (1, None), 2, "10", *NO_INTEGERS]
        for value in wrong + no_fillings():
            with self.subTest(value), raises(self, InvalidFilling, "given", value):
                value_at(table, value)


class OfLayouts(unittest.TestCase):
    SMALL = [(1, 1, 2), (1, 1, 3), (2, 1, 2), (2, 2, 2), (2, 1, 3), (2, 2, 3), (3, 1, 2), (3, 2, 2), (3, 3, 2), (4, 2, 2)]

    def test_books_against_numbers_of_ones_own(self):
        for triple in self.SMALL + [(6, 1, 2), (6, 3, 2), (6, 6, 2), (3, 2, 4), (2, 1, 8), (1, 1, 64)]:
            model = Model(*triple)
            tolds = list(model.tolds())
            near = [(one, other) for one, other in permutations(range(len(tolds)), 2)
                    if sum(a != b for a, b in zip(tolds[one], tolds[other])) <= model.changes]
            self.assertEqual(book_of(model.layout), Book(len(tolds), near))

    def test_record_0_has_the_highest_figure(self):
        # Records that differ in one: 0 and 1 are (0, 0) and (0, 1), 3 is (1, 0), 4 is (1, 1).
        book = book_of(Layout(2, 1, 3))
        self.assertEqual([pair in book.changes for pair in [(0, 1), (0, 3), (0, 4), (4, 1), (8, 2)]],
                         [True, True, False, True, True])
        self.assertEqual(parts(book), [list(range(9))])

    def test_tables_against_numbers_of_ones_own(self):
        for triple in self.SMALL + [(1, 1, 27), (5, 1, 2), (5, 2, 2), (6, 1, 2), (3, 1, 3)]:
            model = Model(*triple)
            numbers = {told: number for number, told in enumerate(model.tolds())}
            entries = [numbers[model.read(filling)] for filling in model.fillings()]
            self.assertEqual(table_of(model.layout), Table(model.disk, entries))

    def test_values_that_are_too_many(self):
        for triple in [(1, 1, 64), (2, 1, 8), (3, 1, 4), (6, 1, 2)]:
            self.assertEqual(book_of(Layout(*triple)).size, 64)
        for triple in [(2, 1, 9), (3, 2, 5), (4, 4, 3), (7, 1, 2), (8, 8, 2), (8, 1, 64), (8, 8, 64), (2, 2, 64)]:
            many = triple[2] ** triple[0]
            self.assertGreater(many, 64)
            with raises_too_many(self, many):
                book_of(Layout(*triple))
            with raises_too_many(self, many):
                table_of(Layout(*triple))

    def test_fillings_that_are_too_many(self):
        # 20000 and less are let; and this is asked behind the number of the values.
        for triple, blocks in [((1, 1, 28), 3), ((1, 1, 64), 3), ((2, 1, 8), 5), ((6, 2, 2), 13), ((6, 3, 2), 15)]:
            many = triple[2] ** blocks
            if many > 20000:
                with raises_too_many(self, many):
                    table_of(Layout(*triple))
            else:
                self.assertEqual(len(table_of(Layout(*triple)).entries), many)
