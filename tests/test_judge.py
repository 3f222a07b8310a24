"""Points 111 to 114, and what points 2, 4, 6 to 10 say of the judge."""

import unittest
from itertools import product

from leastspare.books import Book, any_to_any, ring, row, star
from leastspare.disks import Disk
from leastspare.errors import InvalidNumber, InvalidValue, NotSafe
from leastspare.judge import is_refutation, is_way, keeps, refutation, safe, struck, way
from leastspare.layouts import Layout
from leastspare.tables import Table, book_of, table_of
from tests.board import Board, cases
from tests.support import NO_INTEGERS, fixed_numbers, no_fillings, no_lists, raises, raises_too_many

ANY_3 = any_to_any(3)
TWO, ONE = Table(Disk(2, 2), [0, 0, 1, 2]), Table(Disk(1, 3), [0, 1, 2])


def some_cases(seed, step, offset=0):
    return list(cases(seed))[offset::step]


def twin(table):
    """An equal table that is another object."""
    return Table(Disk(table.disk.blocks, table.disk.contents), list(table.entries))


def twin_book(book):
    return Book(book.size, list(book.changes)[::-1])


class Examples(unittest.TestCase):
    def test_of_the_interface(self):
        told = [safe(TWO, ANY_3), keeps(TWO, ANY_3), refutation(TWO, ANY_3)]
        self.assertEqual(told, [[0, 1, 2, 3], True, None])
        told = [is_way(TWO, ANY_3, 0, 2, [(1, 1), (0, 1)]), is_way(TWO, ANY_3, 0, 2, [(0, 1), (1, 1)])]
        self.assertEqual(told, [True, False])
        self.assertEqual(struck(ONE, ANY_3), [((0, 1), [0]), ((1, 0), [1]), ((2, 0), [2])])
        told = [keeps(ONE, ANY_3, torn=False), is_refutation(ONE, ANY_3, [((1, 2), [1])])]
        self.assertEqual(told, [True, True])
        nought = Table(Disk(1, 2), [0, 0])
        self.assertEqual([keeps(nought, Book(2, [])), refutation(nought, Book(2, []))], [False, []])
        with raises_equal_number(self, 0):
            way(ONE, ANY_3, 0, 1)
        with raises_too_many(self, 516096):
            keeps(Table(Disk(2, 64), [0] * 4096), any_to_any(64))


def raises_equal_number(test, number):
    return raises(test, NotSafe, "number", number)


class Striking(unittest.TestCase):
    def test_against_a_striking_in_other_orders(self):
        numbers, kept = fixed_numbers(112), set()
        orders = [lambda bad: bad[0], lambda bad: bad[-1], lambda bad: bad[next(numbers) % len(bad)]]
        for at, board in enumerate(cases(1)):
            for torn in (True, False):
                standing, _ = board.strike(torn, orders[at % 3])
                found = safe(board.table, board.book, torn=torn)
                self.assertEqual(found, standing)
                self.assertTrue(type(found) is list and all(type(number) is int for number in found))
                self.assertIs(keeps(board.table, board.book, torn=torn), board.keeps(standing))
                kept.add((torn, board.keeps(standing), len(standing) > 0))
        self.assertEqual(len(kept), 6)

    def test_in_rounds(self):
        lengths = set()
        for board in cases(2):
            for torn in (True, False):
                rounds = board.rounds(torn)
                self.assertEqual(struck(board.table, board.book, torn=torn), rounds)
                lengths.add(len(rounds))
        self.assertGreater(len(lengths), 15)

    def test_a_later_round_strikes_what_an_earlier_change_had_left(self):
        # 0, 1, 2, 0, 1 along a path of bits without short cuts; it is struck from its end.
        entries = [None] * 16
        for number, value in [(0, 0), (1, 1), (3, 2), (7, 0), (15, 1)]:
            entries[number] = value
        table, book = Table(Disk(4, 2), entries), Book(3, [(0, 1), (1, 2), (2, 0)])
        for torn in (True, False):
            found = struck(table, book, torn=torn)
            self.assertEqual(found, [((1, 2), [15]), ((0, 1), [7]), ((2, 0), [3]), ((1, 2), [1]), ((0, 1), [0])])
            self.assertEqual(safe(table, book, torn=torn), [])

    def test_of_one_round_by_changes_and_then_by_numbers(self):
        # 8 loses its 2 in the first round and then waits, as its change had its turn ahead of this.
        entries = [None] * 16
        for number, value in [(8, 0), (9, 2), (2, 0), (7, 1), (4, 3), (0, 2)]:
            entries[number] = value
        table = Table(Disk(4, 2), entries)
        book = Book(4, [(3, 1), (0, 2), (2, 1), (1, 3)])
        expected = [((1, 3), [7]), ((2, 1), [0]), ((2, 1), [9]), ((3, 1), [4]), ((0, 2), [2]), ((0, 2), [8])]
        for torn in (True, False):
            found = struck(table, book, torn=torn)
            self.assertEqual(found, Board(table, book).rounds(torn))
            self.assertEqual(found, expected)

    def test_a_long_row_is_struck_from_its_end(self):
        # Along the edge of a great disk each value leads to the next one, and the last one nowhere.
        entries = [None] * 4096
        corner = [(0, at) for at in range(64)]
        for at, (high, low) in enumerate(corner):
            entries[64 * high + low] = at
        table = Table(Disk(2, 64), entries)
        up = Book(64, [(at, at + 1) for at in range(63)])
        self.assertEqual(struck(table, up), [((at, at + 1), [at]) for at in range(63)])
        self.assertEqual(struck(table, up, torn=False), [])
        self.assertEqual(safe(table, up), [63])

    def test_rounds_one_behind_the_other(self):
        # In bits, 64 values one after the other along a path without short cuts; each but the last has a change
        # to the next one, and what is told for the last one is None. Each round strikes just one piece.
        path = snake(7)
        entries = [None] * 128
        for at, number in enumerate(path[:-1]):
            entries[number] = at
        many = len(path) - 1
        table, book = Table(Disk(7, 2), entries), Book(many + 1, [(at, at + 1) for at in range(many)])
        expected = [((at, at + 1), [path[at]]) for at in range(many)][::-1]
        for torn in (True, False):
            self.assertEqual(struck(table, book, torn=torn), expected)
            self.assertEqual(safe(table, book, torn=torn), [])
        down = Book(many + 1, [(many - at - 1, many - at) for at in range(many)])
        self.assertEqual(down, book)

    def test_the_struck_pieces_are_lists_of_their_own(self):
        first = struck(ONE, ANY_3)
        for _, numbers in first:
            numbers.append(9)
        first.clear()
        safe(TWO, ANY_3).clear()
        found = refutation(ONE, ANY_3)
        found[0][1].clear()
        self.assertEqual(struck(ONE, ANY_3), [((0, 1), [0]), ((1, 0), [1]), ((2, 0), [2])])
        self.assertEqual(refutation(ONE, ANY_3), struck(ONE, ANY_3))
        self.assertEqual(safe(TWO, ANY_3), [0, 1, 2, 3])
        for board in some_cases(3, 40):
            pieces = struck(board.table, board.book)
            self.assertEqual(len({id(numbers) for _, numbers in pieces}), len(pieces))
            for piece in pieces:
                self.assertEqual([type(part) for part in (piece, *piece)], [tuple, tuple, list])

    def test_values_without_a_filling_or_a_change(self):
        table = Table(Disk(1, 4), [0, 0, 3, None])
        self.assertEqual(safe(table, Book(4, [])), [0, 1, 2])
        self.assertEqual(safe(table, Book(3, [])), [0, 1])
        self.assertIs(keeps(table, Book(4, [])), False)
        self.assertIs(keeps(table, Book(1, [])), True)
        # A change to a value without a filling strikes all of its first value.
        self.assertEqual(struck(table, Book(4, [(0, 1)])), [((0, 1), [0]), ((0, 1), [1])])
        self.assertEqual(struck(table, Book(4, [(0, 1)]), torn=False), [((0, 1), [0, 1])])
        self.assertEqual(struck(table, Book(4, [(1, 0), (2, 3)])), [])
        self.assertEqual(safe(Table(Disk(1, 2), [None, 7]), Book(3, [(0, 1)])), [])

    def test_stores_keep_their_books(self):
        for triple in [(1, 1, 2), (1, 1, 3), (2, 1, 2), (2, 2, 2), (3, 2, 2), (1, 1, 8), (2, 2, 3), (3, 1, 2)]:
            layout = Layout(*triple)
            table, book = table_of(layout), book_of(layout)
            for torn in (True, False):
                self.assertEqual(safe(table, book, torn=torn), list(range(len(table.entries))))
                self.assertIs(keeps(table, book, torn=torn), True)
                self.assertIsNone(refutation(table, book, torn=torn))

    def test_if_each_value_leads_to_each_other_all_or_nothing_is_safe(self):
        met = set()
        for board in some_cases(4, 3):
            if board.book in (any_to_any(board.book.size), row(board.book.size), star(board.book.size - 1)):
                found = keeps(board.table, board.book)
                self.assertIs(len(safe(board.table, board.book)) > 0, found)
                met.add(found)
        self.assertEqual(met, {True, False})

    def test_torn_left_out_is_torn(self):
        for board in some_cases(5, 7):
            table, book = board.table, board.book
            self.assertEqual(safe(table, book), safe(table, book, torn=True))
            self.assertEqual(struck(table, book), struck(table, book, torn=True))
            self.assertEqual(keeps(table, book), keeps(table, book, torn=True))
            self.assertEqual(refutation(table, book), refutation(table, book, torn=True))
            told = struck(table, book, torn=True)
            self.assertEqual(is_refutation(table, book, told), is_refutation(table, book, told, torn=True))
        self.assertEqual((keeps(ONE, ANY_3), keeps(ONE, ANY_3, torn=False)), (False, True))
        self.assertEqual((safe(ONE, ANY_3), safe(ONE, ANY_3, torn=False)), ([], [0, 1, 2]))
        self.assertEqual(way(ONE, ANY_3, 0, 2, torn=False), [(0, 2)])
        with raises_equal_number(self, 0):
            is_way(ONE, ANY_3, 0, 2, [(0, 2)])
        self.assertEqual(refutation(ONE, ANY_3, torn=False), None)
        self.assertIs(is_refutation(ONE, ANY_3, [((1, 2), [1])], torn=False), False)

    def test_by_name(self):
        given = {"table": TWO, "book": ANY_3, "torn": True}
        self.assertEqual([safe(**given), keeps(**given), struck(**given), refutation(**given)],
                         [[0, 1, 2, 3], True, [], None])
        self.assertIs(is_refutation(value=[], **given), False)
        found = way(other=2, number=0, **given)
        self.assertIs(is_way(value=found, other=2, number=0, **given), True)
        for call, more in [(safe, []), (keeps, []), (struck, []), (refutation, []), (is_refutation, [[]]),
                           (way, [0, 2]), (is_way, [0, 2, []])]:
            with self.assertRaises(TypeError):
                call(TWO, ANY_3, *more, True)


def snake(blocks):
    """The numbers of a path through bits on which none but neighbours are on one line; as long as it gets."""
    path, near = [0], []
    while True:
        met = [path[-1] ^ (1 << block) for block in range(blocks)]
        free = [number for number in met if number not in path
                and sum(bin(number ^ other).count("1") == 1 for other in path) == 1]
        if not free:
            return path
        path.append(free[0])


def great_table(count_of):
    """A table of bits of 19683 fillings with so many fillings of each value, mixed, and None for the rest."""
    entries = [value for value, many in enumerate(count_of) for _ in range(many)]
    entries += [None] * (19683 - len(entries))
    # 7919 is prime to 19683, so each place is taken once.
    return Table(Disk(9, 3), [entries[at * 7919 % 19683] for at in range(19683)])


class Limits(unittest.TestCase):
    COUNTS = [500] * 10 + [450] * 10 + [500]

    def book(self, size, more):
        return Book(size, list(any_to_any(21).changes) + more)

    def calls(self, table, book):
        for torn in (True, False):
            yield from [(call, (table, book), torn) for call in (safe, keeps, struck, refutation)]
            for value in (None, [], [((0, 1), [0])], 0):
                yield is_refutation, (table, book, value), torn
            for number, other in [(None, None), (-1, 0), (19683, 0), (0, 0), (0, True)]:
                yield way, (table, book, number, other), torn
                for value in (None, [], [(0, 1)]):
                    yield is_way, (table, book, number, other, value), torn

    def test_the_greatest_sums(self):
        # Each of 10000 fillings counts for 40 changes; with this, 400000.
        for counts, book in [(self.COUNTS, any_to_any(21)),
                             ([499] + self.COUNTS[1:] + [30, 9], self.book(23, [(21, 22)]))]:
            table = great_table(counts)
            many = sum(counts[one] + counts[other] for one, other in book.changes)
            self.assertIn(many, (400000, 399999))
            for torn in (True, False):
                found = safe(table, book, torn=torn)
                pieces = struck(table, book, torn=torn)
                self.assertEqual(sorted(found + [number for _, numbers in pieces for number in numbers]),
                                 [number for number, entry in enumerate(table.entries) if entry is not None])
                kept = {table.entries[number] for number in found} == set(range(book.size))
                self.assertIs(keeps(table, book, torn=torn), kept)
                self.assertEqual(refutation(table, book, torn=torn), None if kept else pieces)
                self.assertIs(is_refutation(table, book, pieces, torn=torn), not kept)

    def test_a_great_table_that_is_kept(self):
        # Two values of two copies on 14 bits: the first half if the last one has 0, the second if it has 1.
        numbers = range(2 ** 14)
        entries = [(number >> 1 & 3) if number & 1 else (number >> 3 & 3) for number in numbers]
        table, book = Table(Disk(14, 2), entries), any_to_any(4)
        self.assertEqual(safe(table, book), list(numbers))
        writes = way(table, book, 0, 3)
        self.assertIs(is_way(table, book, 0, 3, writes), True)
        self.assertIs(is_way(table, book, 0, 3, [(0, 1), (0, 0)] * 5000 + writes), True)

    def test_just_above(self):
        counts, book = self.COUNTS + [1, 0], self.book(23, [(21, 22)])
        table = great_table(counts)
        self.assertEqual(sum(counts[one] + counts[other] for one, other in book.changes), 400001)
        for call, arguments, torn in self.calls(table, book):
            with self.subTest(call=call, arguments=arguments[2:]), raises_too_many(self, 400001):
                call(*arguments, torn=torn)
        with raises_too_many(self, 400040):
            safe(great_table([501] + self.COUNTS[1:]), any_to_any(21))

    def test_fillings_of_other_values_do_not_count(self):
        # Value 21 is none of the book's, and 20 has no changes.
        table = great_table(self.COUNTS[:20] + [5000, 4683])
        self.assertEqual(len(safe(table, Book(21, []))), 14500)
        with raises_too_many(self, 19683 * 2 * 63):
            keeps(Table(Disk(9, 3), [5] * 19683), Book(64, [pair for at in range(64) if at != 5 for pair in
                                                            [(at, 5), (5, at)]]))

    def test_sums_of_one_way_changes(self):
        # Each of 63 changes to 0 counts the 6349 fillings of 0: 399987, and 1 more for each filling of another value.
        for others, judged in [(13, 400000), (12, 399999), (14, 400001)]:
            table = great_table([6349] + [1] * others)
            book = Book(64, [(at, 0) for at in range(1, 64)])
            if judged > 400000:
                with raises_too_many(self, judged):
                    safe(table, book)
            else:
                # The others stand each alone, and are struck, or are beside a 0.
                self.assertGreaterEqual(len(safe(table, book)), 6349)


class Refutations(unittest.TestCase):
    def test_walked_piece_by_piece(self):
        met = set()
        for board in cases(6):
            for torn in (True, False):
                found = refutation(board.table, board.book, torn=torn)
                standing, _ = board.strike(torn, lambda bad: bad[0])
                self.assertIs(found is None, board.keeps(standing))
                met.add(found is None)
                if found is not None:
                    self.assertIs(type(found), list)
                    self.assertIs(board.is_refutation(found, torn), True)
                    self.assertIs(is_refutation(board.table, board.book, found, torn=torn), True)
                    self.assertIs(is_refutation(board.table, board.book, tuple(found), torn=torn), True)
        self.assertEqual(met, {True, False})

    def test_of_other_orders(self):
        for at, board in enumerate(some_cases(7, 2)):
            for torn in (True, False):
                _, pieces = board.strike(torn, lambda bad: bad[-1])
                expected = board.is_refutation(pieces, torn)
                self.assertIs(is_refutation(board.table, board.book, pieces, torn=torn), expected)
                self.assertIs(expected, refutation(board.table, board.book, torn=torn) is not None)

    def spoilt(self, board, pieces):
        """The pieces with something changed, all of the right kinds."""
        for at, (change, numbers) in enumerate(pieces):
            ahead, behind = pieces[:at], pieces[at + 1:]
            yield ahead
            yield ahead + behind
            yield ahead + [pieces[at]] * 2 + behind
            yield pieces + [pieces[at]]
            yield behind + ahead + [pieces[at]]
            yield pieces[:at + 1] + behind[::-1]
            for other in [change[::-1], (change[0], (change[1] + 1) % board.book.size),
                          ((change[0] + 1) % board.book.size, change[1])]:
                yield ahead + [(other, numbers)] + behind
            for other in [numbers[1:], numbers[:-1], numbers + numbers[-1:], numbers[:1] + numbers, numbers[::-1],
                          sorted({*numbers, (numbers[-1] + 1) % len(board.entries)}), [numbers[0] - 1],
                          [len(board.entries)], list(range(len(board.entries)))]:
                yield ahead + [(change, other)] + behind
            for place in range(at):
                exchanged = list(pieces)
                exchanged[at], exchanged[place] = exchanged[place], exchanged[at]
                yield exchanged
                joined = sorted({*numbers, *pieces[place][1]})
                yield pieces[:place] + [(pieces[place][0], joined)] + pieces[place + 1:]
                yield pieces[:place] + [(pieces[place][0], joined)] + pieces[place + 1:at] + behind

    def test_with_something_changed(self):
        met = [0, 0]
        for board in some_cases(8, 29):
            for torn in (True, False):
                for value in self.spoilt(board, struck(board.table, board.book, torn=torn)[:12]):
                    expected = board.is_refutation(value, torn)
                    met[expected] += 1
                    self.assertIs(is_refutation(board.table, board.book, value, torn=torn), expected,
                                  (board.entries, board.book.changes, value))
        self.assertGreater(min(met), 500)

    def test_it_may_be_empty_and_may_go_on(self):
        self.assertIs(is_refutation(ONE, ANY_3, []), False)
        self.assertIs(is_refutation(ONE, any_to_any(4), []), True)
        self.assertIs(is_refutation(ONE, any_to_any(4), ()), True)
        self.assertIs(is_refutation(TWO, ANY_3, []), False)
        whole = [((1, 2), [1]), ((0, 1), [0]), ((2, 0), [2])]
        for many in range(4):
            self.assertIs(is_refutation(ONE, ANY_3, whole[:many]), many > 0)
        self.assertIs(is_refutation(ONE, ANY_3, whole + [((0, 1), [0])]), False)

    def test_lists_and_tuples(self):
        good = [((1, 2), [1]), ((0, 1), [0])]
        for value in (good, tuple(good), [((1, 2), (1,)), ((0, 1), [0])], (((1, 2), (1,)), ((0, 1), (0,)))):
            self.assertIs(is_refutation(ONE, ANY_3, value), True)
        for value in ([[(1, 2), [1]]], [([1, 2], [1])], [[[1, 2], [1]]], [((1, 2), 1)], [((1, 2), [[1]])],
                      [((1, 2), ((1,),))], [((1, 2),)], [((1, 2), [1], [1])], [((1, 2, 0), [1])], [((1,), [1])],
                      [(1, 2, [1])], ((1, 2), [1]), [((True, 2), [1])], [((1, 2), [True])], [((1, 2), [1.0])],
                      [((1, 2), {"1": 1})], [((1, 2), "1")], [((1, 2), [])], [((1, 2), ())], [((1, 2), [None])],
                      [((1, None), [1])], [((1, 3), [1])], [((3, 1), [1])], [((1, 2), [-2])], [((1, -1), [1])],
                      [((1, 2), [10 ** 60])], [((-2, 2), [1])], [None], [0], ["ab"], [()], [[]], [{}], good + [None],
                      good + [()], [((Disk(1, 2), 2), [1])], [((1, 2), [Disk(1, 2)])], [((1, 2), [(1,)])]):
            with self.subTest(value):
                self.assertIs(is_refutation(ONE, ANY_3, value), False)
        for value in NO_INTEGERS:
            for wrong in ([((value, 2), [1])], [((1, value), [1])], [((1, 2), [value])], [(value, [1])]):
                if wrong == [((1, 2), [1])]:
                    continue
                with self.subTest(wrong):
                    self.assertIs(is_refutation(ONE, ANY_3, wrong), False)

    def test_values_of_every_kind(self):
        for value in no_lists() + no_fillings():
            with self.subTest(value):
                self.assertIs(is_refutation(ONE, ANY_3, value), False)
                # It is empty where nothing has to be struck; no other value of these is one.
                empty = isinstance(value, (list, tuple)) and len(value) == 0
                self.assertIs(is_refutation(ONE, any_to_any(4), value), empty)

    def test_an_equal_answer_for_equal_arguments(self):
        for board in some_cases(9, 11):
            for torn in (True, False):
                again = refutation(twin(board.table), twin_book(board.book), torn=torn)
                self.assertEqual(refutation(board.table, board.book, torn=torn), again)

    def test_what_is_judged_stays(self):
        value = [((1, 2), [1]), ((0, 1), [0])]
        is_refutation(ONE, ANY_3, value)
        self.assertEqual(value, [((1, 2), [1]), ((0, 1), [0])])


class Ways(unittest.TestCase):
    def routes(self, seed, step):
        """Tuples (board, torn, safe numbers, number, other) with a way."""
        for board in some_cases(seed, step):
            for torn in (True, False):
                numbers = safe(board.table, board.book, torn=torn)
                for number in numbers[::3]:
                    for one, other in board.book.changes:
                        if one == board.entries[number]:
                            yield board, torn, numbers, number, other

    def test_walked_write_by_write(self):
        lengths = set()
        for board, torn, numbers, number, other in self.routes(10, 5):
            found = way(board.table, board.book, number, other, torn=torn)
            self.assertIs(type(found), list)
            self.assertTrue(board.is_way(numbers, number, other, found, torn))
            self.assertLess(len(found), len(numbers))
            lengths.add(len(found))
            self.assertIs(is_way(board.table, board.book, number, other, found, torn=torn), True)
            self.assertIs(is_way(board.table, board.book, number, other, tuple(found), torn=torn), True)
        self.assertLessEqual({1, 2, 3}, lengths)

    def test_a_long_way(self):
        # Along a path of bits without short cuts: value 0 up to the end, where 1 is.
        path = snake(7)
        entries = [None] * 128
        for number in path:
            entries[number] = 0
        entries[path[-1]] = 1
        table, book = Table(Disk(7, 2), entries), Book(2, [(0, 1)])
        for torn in (True, False):
            found = way(table, book, path[0], 1, torn=torn)
            self.assertEqual(len(found), len(path) - 1)
            self.assertIs(is_way(table, book, path[0], 1, found, torn=torn), True)
            self.assertIs(is_way(table, book, path[0], 1, found[:-1], torn=torn), False)

    def changed(self, board, writes, seed):
        """Lists of writes of the disk, near to a way."""
        numbers, disk = fixed_numbers(seed), board.table.disk
        every = [(block, content) for block in range(disk.blocks) for content in range(disk.contents)]
        yield []
        for at in range(len(writes) + 1):
            yield writes[:at]
            yield writes[:at] + writes[at + 1:]
            for _ in range(4):
                one, other = every[next(numbers) % len(every)], every[next(numbers) % len(every)]
                yield writes[:at] + [one] + writes[at:]
                yield writes[:at] + [one] + writes[at + 1:]
                yield writes[:at] + [one, other] + writes[at:]
                yield writes[:at] + [one, other] * 3 + writes[at:]
        for _ in range(10):
            yield [every[next(numbers) % len(every)] for _ in range(1 + next(numbers) % 4)]

    def test_with_idle_writes_circles_and_writes_more_or_less(self):
        met = {}
        for at, (board, torn, numbers, number, other) in enumerate(self.routes(11, 37)):
            writes = way(board.table, board.book, number, other, torn=torn)
            for value in self.changed(board, writes, at):
                expected = board.is_way(numbers, number, other, value, torn)
                met[expected, torn] = met.get((expected, torn), 0) + 1
                found = is_way(board.table, board.book, number, other, value, torn=torn)
                self.assertIs(found, expected, (board.entries, board.book.changes, number, other, value, torn))
        self.assertGreater(min(met.values()), 500)

    def test_idle_writes(self):
        # An idle write along a line with a third value, or none, may be cut; a whole one does no harm.
        table, book = Table(Disk(2, 3), [0, 1, 2, 0, 1, 1, None, 1, 0]), Book(2, [(0, 1), (1, 0)])
        self.assertEqual((safe(table, book), safe(table, book, torn=False)), ([1, 3, 4, 5, 7], [0, 1, 3, 4, 5, 7, 8]))
        for value, torn, whole in [([(1, 1)], True, True), ([(1, 0), (1, 2)], True, True),
                                   ([(0, 1), (1, 1)], False, True), ([(0, 0), (1, 1)], False, True),
                                   ([(1, 1), (1, 2)], False, False), ([(1, 1), (1, 1)], False, False),
                                   ([(1, 0)], False, False), ([(1, 1), (1, 0)], False, False), ([(0, 2)], False, False)]:
            self.assertIs(is_way(table, book, 3, 1, value), torn)
            self.assertIs(is_way(table, book, 3, 1, value, torn=False), whole)

    def test_wrong_values(self):
        for value in no_lists() + [[], (), [[1, 1]], [[1, 1], (0, 1)], [(1,), (0, 1)], [(1, 1), (0, True)], [(2, 1)],
                                   [(1, 1), (False, 1)], [(1, 1, 0)], [(1, 2)], [(-1, 1)], [(1, -1)], (1, 1), [1, 1],
                                   [(1, 1), None], [(1, 1), (0, 1), None], [None], [((1, 1),)], [(1, 10 ** 60)],
                                   [[(1, 1), (0, 1)]], [(1, 1), (0, 1), (0, 1)], [(0, 1.0)]]:
            with self.subTest(value):
                self.assertIs(is_way(TWO, ANY_3, 0, 2, value), False)
        for value in NO_INTEGERS:
            self.assertIs(is_way(TWO, ANY_3, 0, 2, [(1, 1), (0, value)]), False)
            self.assertIs(is_way(TWO, ANY_3, 0, 2, [(value, 1), (0, 1)]), False)
        self.assertIs(is_way(TWO, ANY_3, 0, 2, ((1, 1), (0, 1))), True)

    def test_of_no_way(self):
        for value in no_fillings():
            self.assertIs(is_way(TWO, ANY_3, 0, 2, value), False)

    def test_errors_in_order(self):
        # Filling 3 is not safe, 5 has no value of the book, 4 no value.
        table, book = Table(Disk(1, 6), [0, 1, 0, 2, None, 7]), Book(3, [(0, 1), (2, 0)])
        no_numbers = [-1, 6, 10 ** 60, *NO_INTEGERS]
        no_values = [0, 2, 3, 7, -1, 10 ** 60, *NO_INTEGERS]
        self.assertEqual(safe(table, book, torn=False), [0, 1, 2, 3])
        self.assertEqual(safe(table, book), [1])
        for torn, unsafe in [(True, [0, 2, 3, 4, 5]), (False, [4, 5])]:
            for call, more in [(way, [()])] + [(is_way, [(value,)]) for value in (None, [], [(0, 1)], 0, {"a": 1})]:
                for number, other in product(no_numbers, [1, 0, None, 9]):
                    with self.subTest(number), raises(self, InvalidNumber, "given", number):
                        call(table, book, number, other, *more[0], torn=torn)
                for number, other in product(unsafe, [1, 0, None, 9]):
                    with self.subTest(number), raises_equal_number(self, number):
                        call(table, book, number, other, *more[0], torn=torn)
                for other in no_values + [1]:
                    with self.subTest(other), raises(self, InvalidValue, "given", other):
                        call(table, book, 1, other, *more[0], torn=torn)
        for call, more in [(way, []), (is_way, [[(0, 1)]])]:
            for other in no_values:
                with self.subTest(other), raises(self, InvalidValue, "given", other):
                    call(table, book, 0, other, *more, torn=False)
        # 2 may become 0, but not 1.
        self.assertEqual(way(table, book, 3, 0, torn=False), [(0, 0)])

    def test_values_of_every_kind_as_the_other_value(self):
        for other in no_lists() + no_fillings():
            if not isinstance(other, int) or isinstance(other, bool) or other not in (1, 2):
                for call, more in [(way, []), (is_way, [[(1, 1), (0, 1)]])]:
                    with self.subTest(other), raises(self, InvalidValue, "given", other):
                        call(TWO, ANY_3, 0, other, *more)

    def test_an_equal_answer_for_equal_arguments(self):
        for board, torn, _, number, other in self.routes(12, 31):
            again = way(twin(board.table), twin_book(board.book), number, other, torn=torn)
            self.assertEqual(way(board.table, board.book, number, other, torn=torn), again)

    def test_the_list_may_be_changed(self):
        way(TWO, ANY_3, 0, 2).clear()
        value = [(1, 1), (0, 1)]
        self.assertIs(is_way(TWO, ANY_3, 0, 2, value), True)
        self.assertEqual((value, len(way(TWO, ANY_3, 0, 2))), ([(1, 1), (0, 1)], 2))

    def test_tables_and_books_stay(self):
        table, book = Table(Disk(2, 2), [0, 0, 1, 2]), any_to_any(3)
        for torn in (True, False):
            safe(table, book, torn=torn), struck(table, book, torn=torn), way(table, book, 0, 2, torn=torn)
            is_refutation(table, book, [((0, 1), [0])], torn=torn)
        self.assertEqual((table, book), (TWO, ANY_3))


class MainStatements(unittest.TestCase):
    def test_two_blocks_do_not_keep_more(self):
        # Point 7, over all tables of two blocks of bits: any to any of four values is not kept.
        for entries in product(range(4), repeat=4):
            self.assertIs(keeps(Table(Disk(2, 2), entries), any_to_any(4)), False)

    def test_without_a_spare_block(self):
        # One change at once of bits needs none; with three contents it does.
        bits = Table(Disk(3, 2), list(range(8)))
        self.assertIs(keeps(bits, book_of(Layout(3, 1, 2))), True)
        self.assertIs(keeps(bits, book_of(Layout(3, 2, 2))), False)
        self.assertIs(keeps(Table(Disk(2, 3), list(range(9))), book_of(Layout(2, 1, 3))), False)

    def test_rings_of_whole_writes(self):
        # The single writes of two blocks of three contents have a ring through all nine fillings.
        around = [0, 1, 2, 5, 4, 3, 6, 7, 8]
        entries = [around.index(number) for number in range(9)]
        self.assertIs(keeps(Table(Disk(2, 3), entries), row(9), torn=False), True)
        closed = [0, 1, 2, 5, 8, 7, 4, 3, 6]
        entries = [closed.index(number) for number in range(9)]
        self.assertIs(keeps(Table(Disk(2, 3), entries), ring(9), torn=False), True)
        self.assertIs(keeps(Table(Disk(2, 3), entries), ring(9)), False)

    def test_stars_of_own_contents(self):
        table = Table(Disk(2, 3), [0, 1, 1, 0, 2, 2, 0, 3, 3])
        self.assertIs(keeps(table, star(3)), True)
        self.assertIs(keeps(table, any_to_any(4)), False)
