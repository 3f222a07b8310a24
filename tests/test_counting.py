"""Points 131 to 133, and what points 2, 7 to 10 say of counting."""

import unittest
from itertools import product
from math import comb

from leastspare.books import Book, any_to_any, ring, row, star
from leastspare.counting import enough, is_above, least_needed, line_count, most_values, own_lines, pair_lines, wishes
from leastspare.disks import Disk, all_lines
from leastspare.errors import InvalidChanges, InvalidContents, InvalidRecords
from leastspare.judge import safe
from leastspare.layouts import Layout, all_wishes
from leastspare.tables import Table
from tests.board import cases
from tests.support import NO_INTEGERS, fixed_numbers, no_fillings, no_lists, raises

COUNTS = [wishes, least_needed, enough, is_above]


def sum_of(records, changes, contents):
    return sum(comb(records, many) * (contents - 1) ** many for many in range(1, changes + 1))


def triples():
    """Layouts of many sizes, with the bounds of each number among them."""
    for records in [1, 2, 3, 4, 5, 7, 8, 9, 20, 64]:
        for changes in sorted({1, 2, 3, records // 2, records - 1, records} & set(range(1, records + 1))):
            for contents in (2, 3, 4, 5, 6, 7, 9, 16, 64, 65, 999, 10 ** 4):
                yield records, changes, contents
    for records in (999, 1000):
        for changes in (1, 2, 3, 500, records):
            for contents in (2, 3, 4, 10 ** 4):
                yield records, changes, contents


class Examples(unittest.TestCase):
    def test_of_the_interface(self):
        told = [wishes(3, 1, 4), least_needed(3, 1, 4), enough(3, 1, 4), is_above(3, 1, 4), is_above(3, 1, 3)]
        self.assertEqual(told, [9, 2, 3, True, False])
        told = [wishes(2, 2, 3), least_needed(2, 2, 3), enough(2, 2, 3), least_needed(5, 1, 2), enough(5, 1, 2)]
        self.assertEqual(told, [8, 2, 3, 0, 5])
        told = [line_count(Disk(2, 3)), most_values(Disk(2, 3)), most_values(Disk(3, 4)), most_values(Disk(1, 9))]
        self.assertEqual(told, [6, 3, 8, 2])
        self.assertEqual(most_values(Disk(24, 64)), 4003580973509076584339)
        table = Table(Disk(2, 2), [0, 0, 1, 2])
        told = [pair_lines(table, any_to_any(3)), own_lines(table)]
        self.assertEqual(told, [{"0 1": 1, "0 2": 1, "1 2": 1}, 1])
        with raises(self, InvalidChanges, "given", 3):
            wishes(2, 3, 4)


class SpareBlocks(unittest.TestCase):
    def test_wishes(self):
        for triple in triples():
            self.assertEqual(wishes(*triple), sum_of(*triple))
        for triple in [(3, 2, 3), (2, 2, 4), (4, 1, 2), (1, 1, 5), (5, 3, 2)]:
            told = (0,) * triple[0]
            self.assertEqual(wishes(*triple), len(all_wishes(Layout(*triple), told)))
            differing = [other for other in product(range(triple[2]), repeat=triple[0])
                         if 1 <= sum(content != 0 for content in other) <= triple[1]]
            self.assertEqual(wishes(*triple), len(differing))

    def test_least_needed(self):
        for records, changes, contents in triples():
            found = least_needed(records, changes, contents)
            if (changes, contents) == (1, 2):
                self.assertEqual(found, 0)
                continue
            many = sum_of(records, changes, contents)
            fits = [many <= 2 * (records + needed - 1) * contents ** (needed - 1) for needed in (found - 1, found)]
            self.assertGreaterEqual(found, 1)
            self.assertTrue(fits[1])
            # It is the least one: what fits goes on to fit.
            self.assertTrue(found == 1 or not fits[0])

    def test_of_bits_two_changes_need_some(self):
        self.assertEqual([least_needed(2, 2, 2), least_needed(8, 2, 2), least_needed(1, 1, 2), least_needed(1000, 1, 2)],
                         [1, 2, 0, 0])
        self.assertEqual([least_needed(1, 1, 3), least_needed(3, 1, 3), least_needed(1, 1, 4)], [1, 1, 2])

    def test_enough(self):
        for records, changes, contents in triples():
            places = enough(records, changes, contents) - changes - 1
            self.assertGreaterEqual(contents ** places, comb(records, changes))
            self.assertTrue(places == 0 or contents ** (places - 1) < comb(records, changes))
            self.assertLessEqual(least_needed(records, changes, contents), enough(records, changes, contents))
        for records in range(1, 9):
            for changes, contents in product(range(1, records + 1), (2, 3, 5, 64)):
                self.assertEqual(enough(records, changes, contents), Layout(records, changes, contents).spare)

    def test_is_above(self):
        found = {True: 0, False: 0}
        for records, changes, contents in triples():
            sets = comb(records, changes)
            above = contents * sets > changes * sets + 2 * (records + changes - 1)
            self.assertIs(is_above(records, changes, contents), above)
            found[above] += 1
            if above:
                self.assertGreaterEqual(least_needed(records, changes, contents), changes + 1)
        self.assertGreater(min(found.values()), 50)

    def test_contents_just_at_below_and_above(self):
        # The rest of this division is 0 where contents may be just at what is asked.
        at = 0
        for records in [1, 2, 3, 4, 5, 6, 10, 50, 1000]:
            for changes in sorted({1, 2, 3, records - 1, records} & set(range(1, records + 1))):
                sets = comb(records, changes)
                bound, rest = divmod(changes * sets + 2 * (records + changes - 1), sets)
                at += rest == 0
                for contents in range(max(2, bound - 1), min(bound + 3, 10001)):
                    self.assertIs(is_above(records, changes, contents), contents > bound)
        self.assertGreater(at, 9)

    def test_of_one_change_at_once(self):
        for records in [*range(1, 20), 500, 999, 1000]:
            self.assertEqual([is_above(records, 1, contents) for contents in (2, 3, 4, 5, 10 ** 4)],
                             [False, False, True, True, True])

    def test_kinds_of_what_is_returned(self):
        self.assertEqual([type(call(3, 2, 4)) for call in COUNTS], [int, int, int, bool])
        self.assertEqual([type(call(Disk(2, 3))) for call in (line_count, most_values)], [int, int])

    def test_the_bounds(self):
        for call in COUNTS:
            for triple in [(1, 1, 2), (1000, 1, 2), (1000, 1000, 2), (1, 1, 10 ** 4), (1000, 1000, 10 ** 4), (7, 7, 3)]:
                call(*triple)
        self.assertEqual(wishes(1000, 1000, 10 ** 4), 10 ** 4000 - 1)
        self.assertEqual(wishes(1000, 1, 10 ** 4), 1000 * 9999)
        self.assertEqual((enough(1000, 1000, 2), enough(1000, 1, 2)), (1001, 12))

    def test_errors_in_order(self):
        for call in COUNTS:
            for records in [0, 1001, -1, 10 ** 60, *NO_INTEGERS]:
                for changes, contents in [(1, 2), (0, 1), (None, None), (1001, 2)]:
                    with self.subTest(records), raises(self, InvalidRecords, "given", records):
                        call(records, changes, contents)
            for changes in [0, 4, -1, 10 ** 60, *NO_INTEGERS]:
                for contents in (2, 1, None, 10001):
                    with self.subTest(changes), raises(self, InvalidChanges, "given", changes):
                        call(3, changes, contents)
            with raises(self, InvalidChanges, "given", 1001):
                call(1000, 1001, 2)
            for changes in (1, 3):
                for contents in [1, 0, -2, 10001, 10 ** 60, *NO_INTEGERS]:
                    with self.subTest(contents), raises(self, InvalidContents, "given", contents):
                        call(3, changes, contents)
            for value in no_lists() + no_fillings():
                if not isinstance(value, int) or isinstance(value, bool) or value not in range(1, 3):
                    with self.subTest(value), raises(self, InvalidRecords, "given", value):
                        call(value, 1, 2)
                    with self.subTest(value), raises(self, InvalidChanges, "given", value):
                        call(2, value, 2)
                if not isinstance(value, int) or isinstance(value, bool) or value < 2 or value > 10 ** 4:
                    with self.subTest(value), raises(self, InvalidContents, "given", value):
                        call(2, 1, value)

    def test_by_name(self):
        for call in COUNTS:
            self.assertEqual(call(contents=4, changes=2, records=3), call(3, 2, 4))
        table = Table(Disk(2, 2), [0, 0, 1, 2])
        self.assertEqual(pair_lines(book=any_to_any(3), table=table), pair_lines(table, any_to_any(3)))
        self.assertEqual((own_lines(table=table), line_count(disk=Disk(2, 2)), most_values(disk=Disk(2, 3))), (1, 4, 3))


class Lines(unittest.TestCase):
    def test_line_count(self):
        for blocks, contents in [(1, 2), (1, 64), (2, 2), (2, 9), (3, 5), (5, 3), (9, 2)]:
            self.assertEqual(line_count(Disk(blocks, contents)), len(all_lines(Disk(blocks, contents))))
        self.assertEqual(line_count(Disk(24, 64)), 24 * 64 ** 23)

    def test_most_values_by_the_inequality(self):
        for blocks, contents in product(range(1, 25), [2, 3, 4, 5, 6, 7, 31, 32, 63, 64]):
            found = most_values(Disk(blocks, contents))
            pairs = 2 * (blocks - 1) * contents ** (blocks - 1)
            self.assertGreaterEqual(found, blocks + 1)
            self.assertGreater((found + 1) * found, pairs)
            self.assertTrue(found == blocks + 1 or found * (found - 1) <= pairs)

    def test_most_values_where_just_so_many_fit(self):
        # 2 * 1 * 3 is 3 * 2, 2 * 1 * 6 is 4 * 3, 2 * 1 * 10 is 5 * 4; one content less makes it one value less.
        self.assertEqual([most_values(Disk(2, contents)) for contents in (2, 3, 5, 6, 9, 10, 14, 15)],
                         [3, 3, 3, 4, 4, 5, 5, 6])

    def listed(self, board):
        """The sets of values on all lines, by a listing of the tests' own."""
        return [{board.entries[number] for number in line} for line in board.lines]

    def test_against_a_listing(self):
        numbers, met = fixed_numbers(133), 0
        for board in list(cases(133))[::3]:
            table, book, kinds = board.table, board.book, self.listed(board)
            expected = {f"{one} {other}": kinds.count({one, other}) for one, other in
                        {tuple(sorted(change)) for change in book.changes}}
            found = pair_lines(table, book)
            self.assertEqual(found, expected)
            self.assertEqual({type(many) for many in found.values()} | {dict}, {type(found)} | {int for _ in found.values()})
            met += sum(found.values()) > 0
            own = len([values for values in kinds if len(values) == 1 and values != {None}])
            self.assertEqual(own_lines(table), own)
        self.assertGreater(met, 100)

    def test_a_change_in_one_direction_and_in_both(self):
        table = Table(Disk(2, 2), [0, 1, 1, 0])
        for changes in ([(0, 1)], [(1, 0)], [(0, 1), (1, 0)]):
            self.assertEqual(pair_lines(table, Book(3, changes)), {"0 1": 4})
        self.assertEqual(pair_lines(table, Book(3, [(2, 1), (0, 2)])), {"1 2": 0, "0 2": 0})
        self.assertEqual(pair_lines(table, Book(3, [])), {})
        self.assertEqual(pair_lines(table, any_to_any(1)), {})

    def test_two_figures_in_a_text(self):
        table = Table(Disk(1, 2), [63, 10])
        self.assertEqual(pair_lines(table, Book(64, [(63, 10), (2, 10)])), {"10 63": 1, "2 10": 0})

    def test_none_and_third_values_spoil_a_line(self):
        book = any_to_any(2)
        for entries, many in [((0, 1, 1), 1), ((0, 1, None), 0), ((0, 1, 2), 0), ((0, 1, 63), 0), ((0, 0, 0), 0),
                              ((None, None, None), 0), ((0, None, None), 0), ((1, 0, 0), 1), ((2, 2, 1), 0)]:
            self.assertEqual(pair_lines(Table(Disk(1, 3), entries), book), {"0 1": many})
        for entries, many in [((0, 0, 0), 1), ((63, 63, 63), 1), ((None, None, None), 0), ((0, 0, None), 0),
                              ((None, 1, 1), 0), ((0, 0, 1), 0)]:
            self.assertEqual(own_lines(Table(Disk(1, 3), entries)), many)

    def test_lines_count_whether_safe_or_not(self):
        table, book = Table(Disk(1, 2), [0, 1]), Book(3, [(0, 1), (1, 2), (2, 0)])
        self.assertEqual(safe(table, book), [])
        self.assertEqual(pair_lines(table, book), {"0 1": 1, "1 2": 0, "0 2": 0})
        self.assertEqual(own_lines(Table(Disk(1, 2), [1, 1])), 1)

    def test_great_tables(self):
        entries = [number // 64 % 2 * 5 for number in range(4096)]
        table = Table(Disk(2, 64), entries)
        self.assertEqual((pair_lines(table, any_to_any(64))["0 5"], own_lines(table)), (64, 64))
        bits = Table(Disk(14, 2), [number % 2 for number in range(2 ** 14)])
        self.assertEqual((pair_lines(bits, row(2)), own_lines(bits)), ({"0 1": 2 ** 13}, 13 * 2 ** 13))

    def test_what_counting_says_of_tables_that_are_kept(self):
        # Any to any of five values on two copies: a line with just each two values, an own line through each filling.
        entries = [second + 1 if mark >= 2 else first for first, second, mark in product(range(4), repeat=3)]
        table = Table(Disk(3, 4), entries)
        self.assertEqual(len(safe(table, any_to_any(5))), 64)
        self.assertGreater(min(pair_lines(table, any_to_any(5)).values()), 0)
        self.assertLessEqual(5, most_values(Disk(3, 4)))
        self.assertEqual(len(pair_lines(table, any_to_any(5))), 10)
        self.assertEqual(pair_lines(table, star(4)).keys() | pair_lines(table, ring(5)).keys(),
                         {"0 1", "0 2", "0 3", "0 4", "1 2", "2 3", "3 4"})

    def test_the_dict_may_be_changed(self):
        table = Table(Disk(2, 2), [0, 0, 1, 2])
        pair_lines(table, any_to_any(3)).clear()
        self.assertEqual(len(pair_lines(table, any_to_any(3))), 3)
        self.assertEqual(table, Table(Disk(2, 2), [0, 0, 1, 2]))
