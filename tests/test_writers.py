"""Points 121 to 124, and what points 2, 8, 9 and 10 say of writers and their runs."""

import unittest
from itertools import product

from leastspare.books import Book, any_to_any, ring, row, star
from leastspare.disks import Disk
from leastspare.errors import InvalidMemories, InvalidNumber, InvalidRules, InvalidValue, InvalidValues, OtherDisk
from leastspare.judge import keeps, safe
from leastspare.layouts import Layout
from leastspare.tables import Table, book_of, table_of
from leastspare.writers import Writer, breaking_run, breaks, is_run, writer_for
from tests.board import Board, books_of, tables_on
from tests.support import NO_INTEGERS, fixed_numbers, no_fillings, no_lists, raises, raises_equal, raises_too_many

ANY_3 = any_to_any(3)
TWO, ONE = Table(Disk(2, 2), [0, 0, 1, 2]), Table(Disk(1, 3), [0, 1, 2])
DIRECT = [[[None if now == wished else (0, wished, 0)] for wished in range(3)] for now in range(3)]


def drawn_rules(disk, size, memories, numbers):
    """Rules that look random; some answer often, some seldom."""
    seldom = 2 + next(numbers) % 9
    def rule():
        if next(numbers) % seldom == 0:
            return None
        return next(numbers) % disk.blocks, next(numbers) % disk.contents, next(numbers) % memories
    return [[[rule() for _ in range(memories)] for _ in range(size)] for _ in range(disk.contents ** disk.blocks)]


class Walk:
    """Runs as the document tells of them, on a Board."""

    def __init__(self, board, writer, start):
        self.board, self.writer = board, writer
        self.number, self.memory, self.wish, self.pairs = start, 0, None, []

    def copy(self):
        other = Walk(self.board, self.writer, self.number)
        other.memory, other.wish, other.pairs = self.memory, self.wish, list(self.pairs)
        return other

    def key(self):
        return self.number, self.memory, self.wish, tuple(self.pairs)

    def value(self):
        return self.board.entries[self.number]

    def next(self):
        """All events that may come next."""
        if self.wish is None:
            return [("wish", other) for one, other in self.board.book.changes if one == self.value()]
        rule = self.writer.rules[self.number][self.wish[1]][self.memory]
        if rule is None:
            return [("done",)]
        cuts = [("cut", number) for number in self.board.line_of[self.number, rule[0]]]
        return [("write", rule[0], rule[1])] + cuts

    def go(self, event):
        """Go on, and tell whether this event breaks the writer."""
        wish, broken = self.wish, False
        if event[0] == "wish":
            self.wish, self.pairs = (self.value(), event[1]), [(self.number, self.memory)]
        elif event[0] == "write":
            rule = self.writer.rules[self.number][wish[1]][self.memory]
            self.number, self.memory = self.board.line_of[self.number, rule[0]][rule[1]], rule[2]
            broken = self.value() not in wish or (self.number, self.memory) in self.pairs
            self.pairs.append((self.number, self.memory))
        elif event[0] == "cut":
            self.number, self.memory, self.wish = event[1], 0, None
            broken = self.value() not in wish
        else:
            self.wish = None
            broken = self.value() != wish[1]
        return broken


def is_breakable(board, writer, start):
    """Search through all that can come, whole runs with what they met."""
    seen, ahead = set(), [Walk(board, writer, start)]
    while ahead:
        walk = ahead.pop()
        for event in walk.next():
            other = walk.copy()
            if other.go(event):
                return True
            if other.wish is None:
                other.pairs = []
            if other.key() not in seen:
                seen.add(other.key())
                ahead.append(other)
    return False


def drawn_run(board, writer, start, many, numbers, must_stand=False):
    """A run of so many events, with the indexes of those that break the writer."""
    walk, events, broken = Walk(board, writer, start), [], []
    for at in range(many):
        choices = walk.next()
        if must_stand:
            choices = [event for event in choices if not walk.copy().go(event)]
        if not choices:
            break
        event = choices[0] if next(numbers) % 3 else choices[next(numbers) % len(choices)]
        if walk.go(event):
            broken.append(at)
        events.append(event)
    return events, broken


def follow(board, writer, start, events):
    """The indexes of the events that break the writer, or None if this is no run."""
    walk, broken = Walk(board, writer, start), []
    for at, event in enumerate(events):
        if event not in walk.next():
            return None
        if walk.go(event):
            broken.append(at)
    return broken


def some_boards(seed, step):
    """Boards of small tables, some of them with a book that is kept."""
    found = []
    for at, pair in enumerate([(1, 2), (1, 3), (2, 2), (2, 3), (3, 2)]):
        for place, (table, size) in enumerate(tables_on(Disk(*pair), seed + at)):
            found += [Board(table, book) for book in books_of(min(size, 4), seed + place)]
    return found[::step]


class Examples(unittest.TestCase):
    def test_of_the_interface(self):
        writer = Writer(Disk(1, 3), 3, 1, DIRECT)
        told = [is_run(ONE, ANY_3, writer, 0, [("wish", 1), ("write", 0, 1), ("done",)]),
                is_run(ONE, ANY_3, writer, 0, [("done",)])]
        self.assertEqual(told, [True, False])
        told = [breaks(ONE, ANY_3, writer, 0, [("wish", 1), ("cut", 2)]),
                breaks(ONE, ANY_3, writer, 0, [("wish", 1), ("cut", 1)])]
        self.assertEqual(told, [True, False])
        self.assertIs(breaks(ONE, ANY_3, writer, 2, breaking_run(ONE, ANY_3, writer, 2)), True)
        told = [breaking_run(TWO, ANY_3, writer_for(TWO, ANY_3), start) for start in range(4)]
        self.assertEqual(told, [None, None, None, None])
        events = [("wish", 1), ("cut", 1), ("wish", 2), ("write", 0, 1), ("done",)]
        self.assertIs(is_run(TWO, ANY_3, writer_for(TWO, ANY_3), 1, events), True)
        with raises_equal(self, InvalidNumber, "given", 3):
            breaking_run(ONE, ANY_3, writer, 3)


class Writers(unittest.TestCase):
    def rules(self, many, size, memories, rule=None):
        return [[[rule] * memories for _ in range(size)] for _ in range(many)]

    def test_attributes(self):
        rules = self.rules(4, 2, 3, (1, 0, 2))
        writer = Writer(Disk(2, 2), 2, 3, rules)
        self.assertEqual((writer.disk, writer.size, writer.memories), (Disk(2, 2), 2, 3))
        self.assertEqual(writer.rules, ((((1, 0, 2),) * 3,) * 2,) * 4)
        for rows in writer.rules:
            self.assertEqual([type(part) for part in (writer.rules, rows, rows[0], rows[0][0])], [tuple] * 4)
        rules[0][0][0] = None
        rules[1].clear()
        rules.append(9)
        self.assertEqual(writer.rules, ((((1, 0, 2),) * 3,) * 2,) * 4)

    def test_the_bounds(self):
        for size in (1, 2, 63, 64):
            self.assertEqual(Writer(Disk(1, 2), size, 1, self.rules(2, size, 1)).size, size)
        for memories in (1, 2, 63, 64):
            writer = Writer(Disk(1, 2), 1, memories, self.rules(2, 1, memories, (0, 1, memories - 1)))
            self.assertEqual(writer.memories, memories)

    def test_errors_in_order(self):
        great = Disk(24, 64)
        for size in [0, 65, -1, 10 ** 60, *NO_INTEGERS]:
            for memories, rules in product([1, 0, None], [[], None]):
                with self.subTest(size), raises(self, InvalidValues, "given", size):
                    Writer(great, size, memories, rules)
        for memories in [0, 65, -1, 10 ** 60, *NO_INTEGERS]:
            for rules in ([], None):
                with self.subTest(memories), raises(self, InvalidMemories, "given", memories):
                    Writer(great, 64, memories, rules)
        for rules in ([], None, [[[None]]]):
            with raises_too_many(self, 64 ** 26):
                Writer(great, 64, 64, rules)
            with raises_too_many(self, 64 ** 24):
                Writer(great, 1, 1, rules)
        for value in no_lists() + no_fillings():
            if not isinstance(value, int) or isinstance(value, bool) or not 1 <= value <= 64:
                with self.subTest(value), raises(self, InvalidValues, "given", value):
                    Writer(Disk(1, 2), value, 1, [])
                with self.subTest(value), raises(self, InvalidMemories, "given", value):
                    Writer(Disk(1, 2), 1, value, [])

    def test_the_product(self):
        for disk, size, memories in [(Disk(4, 5), 32, 1), (Disk(4, 5), 1, 32), (Disk(4, 5), 8, 4), (Disk(1, 50), 20, 20),
                                     (Disk(2, 25), 1, 32), (Disk(1, 10), 50, 40)]:
            many = disk.contents ** disk.blocks
            self.assertEqual(many * size * memories, 20000)
            writer = Writer(disk, size, memories, self.rules(many, size, memories, (0, 1, 0)))
            self.assertEqual(len(writer.rules), many)
        # No product of such numbers is 20001 to 20006: these have prime factors above 64.
        for disk, size, memories in [(Disk(4, 3), 13, 19), (Disk(1, 27), 39, 19), (Disk(1, 57), 13, 27)]:
            for rules in (None, [], self.rules(disk.contents ** disk.blocks, size, memories)):
                with raises_too_many(self, 20007):
                    Writer(disk, size, memories, rules)
        for disk, size, memories in [(Disk(15, 2), 1, 1), (Disk(9, 3), 2, 1), (Disk(9, 3), 1, 2), (Disk(1, 8), 41, 61),
                                     (Disk(1, 64), 64, 64), (Disk(4, 5), 33, 1), (Disk(4, 5), 1, 33)]:
            with raises_too_many(self, disk.contents ** disk.blocks * size * memories):
                Writer(disk, size, memories, None)

    def test_rules_spoilt_at_every_depth(self):
        disk, good = Disk(2, 2), self.rules(4, 2, 3, (1, 0, 2))
        def spoilt(place, wrong):
            rules = [[list(row) for row in rows] for rows in good]
            at, value, memory = place
            if value is None:
                rules[at] = wrong
            elif memory is None:
                rules[at][value] = wrong
            else:
                rules[at][value][memory] = wrong
            return rules
        lists = no_lists() + [[], (), [None], [[None]], "ab", {"a": 1}]
        wrong = [good[:3], good + good[:1], good * 2, [], ()] + no_lists()
        for at in range(4):
            wrong += [spoilt((at, None, None), value) for value in lists + [good[0] * 2, good[0][:1], [[]] * 2]]
            for value in range(2):
                row = good[at][value]
                wrong += [spoilt((at, value, None), other) for other in lists + [row[:2], row + row[:1], [[]] * 3]
                          if not isinstance(other, (list, tuple)) or len(other) != 3]
                for memory in range(3):
                    for rule in [0, True, False, "", "abc", [], (), [1, 0, 2], (1, 0), (1, 0, 2, 0), (2, 0, 0), (0, 2, 0),
                                 (0, 0, 3), (-1, 0, 0), (0, -1, 0), (0, 0, -1), (None, 0, 0), (True, 0, 0), (1, False, 2),
                                 (0, 0, True), ((1, 0, 2),), [None], {}, Disk(1, 2), (0, [0], 0), (0, 0, 10 ** 60),
                                 (0, 0, None), (0, 0, "1"), (1.0, 0, 0)]:
                        wrong.append(spoilt((at, value, memory), rule))
        for rules in wrong:
            with self.subTest(rules), raises(self, InvalidRules, "given", rules):
                Writer(disk, 2, 3, rules)

    def test_lists_and_tuples_at_every_depth(self):
        for kinds in product([list, tuple], repeat=3):
            rules = kinds[0]([kinds[1]([kinds[2]([(0, 1, 0), None]), kinds[2]([None, (1, 1, 1)])])] * 4)
            writer = Writer(Disk(2, 2), 2, 2, rules)
            self.assertEqual(writer.rules, ((((0, 1, 0), None), (None, (1, 1, 1))),) * 4)
            self.assertEqual(writer, Writer(rules=rules, memories=2, size=2, disk=Disk(2, 2)))

    def test_equal_exactly_if_all_four_are(self):
        kinds = [(Disk(1, 2), 1, 2, self.rules(2, 1, 2)), (Disk(1, 2), 2, 1, self.rules(2, 2, 1)),
                 (Disk(1, 2), 1, 1, self.rules(2, 1, 1)), (Disk(1, 4), 1, 1, self.rules(4, 1, 1)),
                 (Disk(2, 2), 1, 1, self.rules(4, 1, 1)), (Disk(1, 2), 1, 2, self.rules(2, 1, 2, (0, 0, 0))),
                 (Disk(1, 2), 1, 2, self.rules(2, 1, 2, (0, 0, 1))), (Disk(2, 2), 1, 1, self.rules(4, 1, 1, (0, 0, 0)))]
        for one, other in product(kinds, kinds):
            self.assertIs(Writer(*one) == Writer(*other), one == other)
            self.assertIs(Writer(*one) != Writer(*other), one != other)
        writer = Writer(*kinds[0])
        for value in no_fillings() + [kinds[0], Disk(1, 2), writer.rules, TWO, ANY_3]:
            self.assertIs(writer == value, False)
            self.assertIs(value == writer, False)


class Runs(unittest.TestCase):
    def judge(self, board, writer, start, value, expected):
        """Whether a list is a run, and breaks the writer, as expected: indexes of what breaks, or None."""
        arguments = (board.table, board.book, writer, start, value)
        self.assertIs(is_run(*arguments), expected is not None, (board.entries, writer.rules, start, value))
        self.assertIs(breaks(*arguments), expected == [len(value) - 1], (board.entries, writer.rules, start, value))

    def cases(self, seed, step, memories=(1, 2, 3)):
        numbers = fixed_numbers(seed)
        for board in some_boards(seed, step):
            disk = board.table.disk
            writers = [Writer(disk, board.book.size + extra, many, drawn_rules(disk, board.book.size + extra, many, numbers))
                       for many, extra in zip(memories, (0, 1, 0))]
            writers.append(writer_for(board.table, board.book))
            for writer in writers:
                for start in sorted(board.at_first())[::2]:
                    yield board, writer, start, numbers

    def test_of_each_beginning(self):
        broken = [0, 0, 0]
        for board, writer, start, numbers in self.cases(122, 3):
            events, _ = drawn_run(board, writer, start, 14, numbers)
            for many in range(len(events) + 1):
                expected = follow(board, writer, start, events[:many])
                self.assertIsNotNone(expected)
                broken[min(len(expected), 2)] += 1
                self.judge(board, writer, start, events[:many], expected)
                self.judge(board, writer, start, tuple(events[:many]), expected)
        self.assertGreater(min(broken), 500)

    def test_with_an_event_left_out_twice_exchanged_or_replaced(self):
        met = {None: 0, 0: 0, 1: 0}
        for board, writer, start, numbers in self.cases(123, 23):
            events, _ = drawn_run(board, writer, start, 9, numbers)
            every = [("done",)] + [("wish", value) for value in range(board.book.size)]
            every += [("cut", number) for number in range(len(board.entries))]
            every += list(product(["write"], range(board.table.disk.blocks), range(board.table.disk.contents)))
            for at, event in enumerate(events):
                values = [events[:at] + events[at + 1:], events[:at + 1] + events[at:], events[at:] + events[:at]]
                values.append(events[:at] + events[at:at + 2][::-1] + events[at + 2:])
                values += [events[:at] + [other] + events[at + 1:] for other in every]
                values += [events[:at] + [other] for other in every]
                values += [events[:at] + [other] + events[at:] for other in every]
                for value in values:
                    expected = follow(board, writer, start, value)
                    met[expected if expected is None else min(len(expected), 1)] += 1
                    self.judge(board, writer, start, value, expected)
        self.assertGreater(min(met.values()), 500)

    def test_what_breaks(self):
        # From 0: to 1 straight, to 2 by a write that changes nothing and one to 1.
        rules = [[[None], [(0, 1, 0)], [(0, 0, 0)]], [[(0, 0, 0)], [None], [None]], [[(0, 1, 0)], [(0, 3, 0)], [None]],
                 [[None], [None], [None]]]
        table, book = Table(Disk(1, 4), [0, 1, 2, None]), any_to_any(3)
        writer, board = Writer(Disk(1, 4), 3, 1, rules), Board(Table(Disk(1, 4), [0, 1, 2, None]), any_to_any(3))
        for start, value, expected in [
                (0, [("wish", 1), ("write", 0, 1), ("done",)], []), (0, [("wish", 2), ("write", 0, 0)], [1]),
                (0, [("wish", 1), ("cut", 0)], []), (0, [("wish", 1), ("cut", 1)], []), (0, [("wish", 1), ("cut", 2)], [1]),
                (0, [("wish", 1), ("cut", 3)], [1]), (0, [("wish", 1), ("cut", 4)], None), (0, [("wish", 0)], None),
                (0, [("wish", 3)], None), (1, [("wish", 2), ("done",)], [1]), (1, [("wish", 2), ("cut", 1)], None),
                (2, [("wish", 1), ("write", 0, 3)], [1]), (2, [("wish", 1), ("write", 0, 3), ("done",)], [1, 2]),
                (2, [("wish", 1), ("write", 0, 3), ("done",), ("wish", 0)], None),
                (2, [("wish", 1), ("cut", 3), ("wish", 1)], None), (2, [("wish", 0), ("write", 0, 1)], [1]),
                (2, [("wish", 0), ("write", 0, 1), ("write", 0, 0), ("done",)], [1]),
                (2, [("wish", 0), ("write", 0, 1), ("write", 0, 0), ("done",), ("wish", 2), ("write", 0, 0)], [1, 5])]:
            self.assertEqual(follow(board, writer, start, value), expected)
            self.assertIs(is_run(table, book, writer, start, value), expected is not None)
            self.assertIs(breaks(table, book, writer, start, value), expected == [len(value) - 1])

    def test_a_memory_keeps_pairs_apart_and_is_lost_by_a_cut(self):
        # It stays at its filling, with another memory each time, until it has counted to 3.
        rules = [[[None] * 4, [(0, 0, 1), (0, 0, 2), (0, 0, 3), (0, 1, 1)]], [[(0, 1, 1), (0, 0, 2), None, None], [None] * 4]]
        table, book, writer = Table(Disk(1, 2), [0, 1]), any_to_any(2), Writer(Disk(1, 2), 2, 4, rules)
        up = [("wish", 1)] + [("write", 0, 0)] * 3 + [("write", 0, 1), ("done",)]
        board = Board(table, book)
        self.judge(board, writer, 0, up, [])
        # The memory is 1 behind the answer; so the next wish goes straight.
        self.judge(board, writer, 0, up + [("wish", 0), ("write", 0, 0), ("done",)], [])
        self.judge(board, writer, 0, up + [("wish", 0), ("write", 0, 1)], None)
        # Behind a cut it is 0 again.
        cut = [("wish", 1)] + [("write", 0, 0)] * 3 + [("cut", 1)]
        self.judge(board, writer, 0, cut + [("wish", 0), ("write", 0, 1), ("write", 0, 0), ("done",)], [])
        self.judge(board, writer, 0, cut + [("wish", 0), ("write", 0, 0)], None)
        self.assertIsNone(breaking_run(table, book, writer, 0))
        self.assertIsNone(breaking_run(table, book, writer, 1))

    def test_values_of_every_kind(self):
        writer = Writer(Disk(1, 3), 3, 1, DIRECT)
        for value in no_lists() + no_fillings():
            with self.subTest(value):
                empty = isinstance(value, (list, tuple)) and len(value) == 0
                self.assertIs(is_run(ONE, ANY_3, writer, 0, value), empty)
                self.assertIs(breaks(ONE, ANY_3, writer, 0, value), False)

    def test_events_of_every_kind(self):
        writer, good = Writer(Disk(1, 3), 3, 1, DIRECT), [("wish", 1), ("write", 0, 1), ("done",)]
        self.assertIs(is_run(ONE, ANY_3, writer, 0, good), True)
        wrong = no_lists() + no_fillings() + [
            ["wish", 1], ["write", 0, 1], ["done"], ("wish",), ("wish", 1, 0), ("wish", [1]), ("wish", (1,)), ("done", 0),
            ("done", None), ("write", 0), ("write", 0, 1, 0), ("write", (0, 1)), ("write", [0, 1]), ("cut",), ("cut", 0, 0),
            ("cut", (0,)), ("cut", [0]), ("Wish", 1), (b"wish", 1), "done", ("told", (0,)), ("wish", 10 ** 60),
            ("cut", 10 ** 60), ("cut", -1), ("cut", 3), ("write", -1, 1), ("write", 0, -2), (("wish", 1),), ("write", 1, 1),
            ("wish", -1), ("wish", 3)]
        for value in NO_INTEGERS:
            wrong += [("wish", value), ("write", value, 1), ("write", 0, value), ("cut", value), (value, 1), (value, 0, 1)]
        for at, event in enumerate(good):
            for other in wrong:
                for value in (good[:at] + [other] + good[at + 1:], good[:at] + [other]):
                    with self.subTest(value):
                        self.assertIs(is_run(ONE, ANY_3, writer, 0, value), False)
                        self.assertIs(breaks(ONE, ANY_3, writer, 0, value), False)

    def test_the_longest_runs(self):
        table, writer = TWO, writer_for(TWO, ANY_3)
        board, numbers = Board(TWO, ANY_3), fixed_numbers(40)
        events, _ = drawn_run(board, writer, 0, 40001, numbers)
        self.assertEqual(len(events), 40001)
        self.judge(board, writer, 0, events[:40000], [])
        self.assertIs(is_run(table, ANY_3, writer, 0, events), False)
        self.assertIs(is_run(table, ANY_3, writer, 0, events[:40000]), True)
        # Of wishes to 0 and 1 alone; the last event breaks the writer.
        table, book = Table(Disk(1, 3), [0, 1, None]), any_to_any(2)
        writer = Writer(Disk(1, 3), 2, 1, [rows[:2] for rows in DIRECT])
        around = [("wish", 1), ("write", 0, 1), ("done",), ("wish", 0), ("write", 0, 0), ("done",)]
        events = around * 6666 + [("wish", 1), ("cut", 0), ("wish", 1), ("cut", 2)]
        self.assertEqual(len(events), 40000)
        self.judge(Board(table, book), writer, 0, events, [39999])
        longer = [("wish", 1), ("cut", 0)] * 20000
        self.assertIs(is_run(table, book, writer, 0, longer), True)
        self.assertIs(breaks(table, book, writer, 0, longer[:-1] + [("cut", 2)]), True)
        self.assertIs(is_run(table, book, writer, 0, longer + [("wish", 1)]), False)
        self.assertIs(breaks(table, book, writer, 0, longer[:-1] + [("cut", 0), ("wish", 1), ("cut", 2)]), False)
        self.assertIs(breaks(table, book, writer, 0, longer[2:] + [("wish", 1), ("cut", 2)]), True)

    def test_many_wishes_of_a_great_book(self):
        # The wishes are looked up in 4032 changes.
        book, table = any_to_any(64), Table(Disk(1, 64), list(range(64)))
        rules = [[[None if now == wished else (0, wished, 0)] for wished in range(64)] for now in range(64)]
        writer = Writer(Disk(1, 64), 64, 1, rules)
        events = []
        for at in range(13333):
            events += [("wish", (at + 1) % 64), ("write", 0, (at + 1) % 64), ("done",)]
        self.assertIs(is_run(table, book, writer, 0, events), True)
        self.assertIs(breaks(table, book, writer, 0, events + [("wish", 0)]), False)

    def test_errors_in_order(self):
        table = Table(Disk(1, 4), [0, 1, None, 5])
        book = Book(3, [(0, 1), (1, 0)])
        small = Writer(Disk(1, 4), 2, 1, [[[None]] * 2] * 4)
        other = Writer(Disk(2, 2), 2, 1, [[[None]] * 2] * 4)
        for call, more in [(breaking_run, [()]), (is_run, [([],), (None,), ([("wish", 1)],), (0,)]),
                           (breaks, [([],), (None,), ({"a": 1},)])]:
            for values in more:
                for start in [0, 2, -1, None, True]:
                    with raises(self, OtherDisk, "disk", other.disk):
                        call(table, book, other, start, *values)
                for start in [2, 3, 4, -1, 10 ** 60, *NO_INTEGERS]:
                    with self.subTest(start), raises(self, InvalidNumber, "given", start):
                        call(table, book, small, start, *values)
                for start in [0, 1]:
                    with raises(self, InvalidValue, "given", small.size):
                        call(table, book, small, start, *values)
        for start in no_lists() + no_fillings():
            if not isinstance(start, int) or isinstance(start, bool) or start not in (0, 1):
                with self.subTest(start), raises(self, InvalidNumber, "given", start):
                    breaking_run(table, book, small, start)
        # The last filling has a value of the book; still -1 is no number.
        direct = Writer(Disk(1, 3), 3, 1, DIRECT)
        for call, more in [(breaking_run, []), (is_run, [[]]), (breaks, [[]])]:
            for start in (-1, -3, 3):
                with raises(self, InvalidNumber, "given", start):
                    call(ONE, ANY_3, direct, start, *more)
        great = Writer(Disk(1, 4), 3, 1, [[[None]] * 3] * 4)
        self.assertIs(is_run(table, book, great, 0, [("wish", 1), ("done",)]), True)

    def test_what_is_judged_stays(self):
        value, writer = [("wish", 1), ("write", 0, 1), ("done",)], Writer(Disk(1, 3), 3, 1, DIRECT)
        is_run(ONE, ANY_3, writer, 0, value), breaks(ONE, ANY_3, writer, 0, value)
        self.assertEqual(value, [("wish", 1), ("write", 0, 1), ("done",)])
        self.assertEqual((writer, ONE, ANY_3), (Writer(Disk(1, 3), 3, 1, DIRECT), Table(Disk(1, 3), [0, 1, 2]), any_to_any(3)))

    def test_by_name(self):
        writer = Writer(Disk(1, 3), 3, 1, DIRECT)
        given = {"start": 0, "writer": writer, "book": ANY_3, "table": ONE}
        self.assertIs(is_run(value=[("wish", 1)], **given), True)
        found = breaking_run(**given)
        self.assertIs(breaks(value=found, **given), True)
        self.assertEqual(writer_for(book=ANY_3, table=TWO), writer_for(TWO, ANY_3))


class BreakingRuns(unittest.TestCase):
    def check(self, board, writer, start):
        """A breaking run is one, and there is one exactly if the tests' own search finds one."""
        found = breaking_run(board.table, board.book, writer, start)
        told = (board.entries, board.book.changes, writer.rules, start)
        self.assertIs(found is not None, is_breakable(board, writer, start), told)
        if found is not None:
            self.judge(board, writer, start, found)
        return found is not None

    def judge(self, board, writer, start, found):
        self.assertIs(type(found), list)
        self.assertEqual(follow(board, writer, start, found), [len(found) - 1])
        self.assertIs(breaks(board.table, board.book, writer, start, found), True)
        self.assertLess(len(found), 2 * len(board.entries) * writer.size * writer.memories)

    def test_all_writers_of_one_block(self):
        rules, met = [None, (0, 0, 0), (0, 1, 0)], set()
        boards = [Board(Table(Disk(1, 2), entries), book) for entries in [(0, 1), (1, 0), (0, 0), (1, None)]
                  for book in [any_to_any(2), Book(2, [(0, 1)]), Book(2, [])]]
        for four in product(rules, repeat=4):
            writer = Writer(Disk(1, 2), 2, 1, [[[four[0]], [four[1]]], [[four[2]], [four[3]]]])
            for board in boards:
                for start in board.at_first():
                    met.add(self.check(board, writer, start))
        self.assertEqual(met, {True, False})

    def test_drawn_writers(self):
        met, numbers = [0, 0], fixed_numbers(123)
        for board in some_boards(31, 4):
            disk, size = board.table.disk, board.book.size
            for many in (1, 2, 4):
                rules = drawn_rules(disk, size, many, numbers)
                good = writer_for(board.table, board.book).rules
                # Half of the rules are good ones, which keep the memory.
                mixed = [[[(good[at][value][0] or (None,))[:2] + (memory,) if good[at][value][0] else None
                           for memory in range(many)] if next(numbers) % 8 else rules[at][value]
                          for value in range(size)] for at in range(len(rules))]
                for made in (rules, mixed):
                    writer = Writer(disk, size, many, made)
                    for start in sorted(board.at_first())[::3]:
                        met[self.check(board, writer, start)] += 1
        self.assertGreater(min(met), 300)

    def test_from_each_start_that_is_not_safe(self):
        numbers, met = fixed_numbers(1), 0
        for board in some_boards(32, 2):
            disk, size = board.table.disk, board.book.size
            numbers_safe = safe(board.table, board.book)
            writers = [writer_for(board.table, board.book), Writer(disk, size, 1, [[[None]] * size] * len(board.entries)),
                       Writer(disk, size, 2, drawn_rules(disk, size, 2, numbers)),
                       Writer(disk, size + 1, 1, drawn_rules(disk, size + 1, 1, numbers))]
            for start in board.at_first() - set(numbers_safe):
                for writer in writers:
                    self.judge(board, writer, start, breaking_run(board.table, board.book, writer, start))
                    met += 1
        self.assertGreater(met, 1000)

    def test_a_table_that_is_not_kept_breaks_each_writer_everywhere(self):
        numbers = fixed_numbers(2)
        for table, book in [(ONE, ANY_3), (Table(Disk(2, 2), [0, 1, 2, 3]), any_to_any(4)),
                            (Table(Disk(2, 3), [0, 1, 2, 3, 4, 4, 4, 4, 4]), ring(5))]:
            self.assertIs(keeps(table, book), False)
            for _ in range(10):
                writer = Writer(table.disk, book.size, 3, drawn_rules(table.disk, book.size, 3, numbers))
                for start in range(len(table.entries)):
                    found = breaking_run(table, book, writer, start)
                    self.judge(Board(table, book), writer, start, found)

    def test_writers_that_go_round_many_fillings(self):
        # Through 8192 fillings of value 0, and round again: 1 is never reached.
        disk, many = Disk(13, 2), 8192
        gray = [at ^ at >> 1 for at in range(many)]
        rules = [[[None], [None]] for _ in range(many)]
        for at, number in enumerate(gray):
            block = 12 - (number ^ gray[(at + 1) % many]).bit_length() + 1
            content = gray[(at + 1) % many] >> 12 - block & 1
            rules[number][1] = [(block, content, 0)]
        writer = Writer(disk, 2, 1, rules)
        table, book = Table(disk, [0] * many), Book(2, [(0, 1)])
        for start in (0, 5000):
            found = breaking_run(table, book, writer, start)
            self.assertIs(breaks(table, book, writer, start, found), True)
            self.assertEqual(len(found), many + 1)
            self.assertLess(len(found), 2 * many * 2)
        # The same, but it comes to 1 at the end: no cut and no wish breaks it.
        entries = [0] * many
        entries[gray[-1]] = 1
        rules[gray[-1]] = [[(0, 0, 0)], [None]]
        writer, table, book = Writer(disk, 2, 1, rules), Table(disk, entries), any_to_any(2)
        self.assertIsNone(breaking_run(table, book, writer, gray[0]))
        self.assertIsNone(breaking_run(table, book, writer, gray[-1]))
        walk = [("wish", 1)]
        for number in gray[:-1]:
            block, content, _ = rules[number][1][0]
            walk.append(("write", block, content))
        self.assertIs(is_run(table, book, writer, gray[0], walk + [("done",)]), True)

    def test_writers_that_count_in_their_memory(self):
        # Sixty-four memories at each of 64 fillings, before it is seen that it never answers.
        disk, size = Disk(3, 4), 2
        rules = [[[None] * 64, [(2, 0, memory + 1 if memory < 63 else 0) for memory in range(64)]] for _ in range(64)]
        for number in range(64):
            block = 2 - (number % 4 == 3) - (number % 16 == 15)
            content = (number + 1) // 4 ** (2 - block) % 4
            rules[number][1][63] = (block, content, 0)
            for memory in range(63):
                rules[number][1][memory] = (2, number % 4, memory + 1)
        writer = Writer(disk, size, 64, rules)
        table, book = Table(disk, [0] * 64), Book(2, [(0, 1)])
        found = breaking_run(table, book, writer, 0)
        self.assertIs(breaks(table, book, writer, 0, found), True)
        self.assertLess(len(found), 2 * 64 * 2 * 64)
        self.assertGreater(len(found), 64 * 2)

    def test_long_bit_paths(self):
        # In bits no cut leaves a third filling: each wish leads one step on, and the last one nowhere.
        path = bit_path(9)
        entries = [None] * 512
        for at, number in enumerate(path):
            entries[number] = at % 3
        table, book = Table(Disk(9, 2), entries), Book(3, [(0, 1), (1, 2), (2, 0)])
        writer = direct_writer(Disk(9, 2), table, path)
        self.assertGreater(len(path), 50)
        found = breaking_run(table, book, writer, path[0])
        # For each step a wish, and a write and an answer or a cut.
        self.assertGreaterEqual(len(found), 2 * (len(path) - 1) + 2)
        self.judge(Board(table, book), writer, path[0], found)

    def test_an_equal_answer_for_equal_arguments(self):
        numbers = fixed_numbers(3)
        for board in some_boards(33, 9):
            disk, size = board.table.disk, board.book.size
            rules = drawn_rules(disk, size, 2, numbers)
            one, other = Writer(disk, size, 2, rules), Writer(Disk(disk.blocks, disk.contents), size, 2, tuple(rules))
            twin = Table(Disk(disk.blocks, disk.contents), list(board.entries))
            book = Book(size, list(board.book.changes)[::-1])
            self.assertEqual(writer_for(board.table, board.book), writer_for(twin, book))
            for start in board.at_first():
                found = breaking_run(board.table, board.book, one, start)
                self.assertEqual(breaking_run(twin, book, other, start), found)
                if found is not None:
                    found.clear()
                    self.assertNotEqual(breaking_run(board.table, board.book, one, start), [])


def bit_path(blocks):
    """Numbers of bits of a path on which none but neighbours are on one line."""
    path = [0]
    while True:
        free = [path[-1] ^ 1 << block for block in range(blocks)]
        free = [number for number in free if sum(bin(number ^ other).count("1") <= 1 for other in path) == 1]
        if not free:
            return path
        path.append(free[0])


def direct_writer(disk, table, path):
    """From each filling of a path one write leads to the next one; at the last one it answers, whatever is wished."""
    rules = [[[None] for _ in range(3)] for _ in range(disk.contents ** disk.blocks)]
    for at, number in enumerate(path[:-1]):
        weights = [disk.contents ** (disk.blocks - 1 - block) for block in range(disk.blocks)]
        figures = [(number // weight % disk.contents, path[at + 1] // weight % disk.contents) for weight in weights]
        block = [one != other for one, other in figures].index(True)
        rules[number][(table.entries[number] + 1) % 3] = [(block, figures[block][1], 0)]
    return Writer(disk, 3, 1, rules)


class GoodWriters(unittest.TestCase):
    def test_no_run_from_a_safe_filling_breaks_them(self):
        met = 0
        for board in some_boards(34, 1):
            writer = writer_for(board.table, board.book)
            self.assertEqual((writer.disk, writer.size, writer.memories), (board.table.disk, board.book.size, 1))
            self.assertIs(type(writer), Writer)
            for start in safe(board.table, board.book):
                self.assertIsNone(breaking_run(board.table, board.book, writer, start))
                self.assertIs(is_breakable(board, writer, start), False)
                met += 1
        self.assertGreater(met, 2000)

    def test_long_runs(self):
        numbers = fixed_numbers(34)
        for table, book in [(TWO, ANY_3), (table_of(Layout(1, 1, 3)), book_of(Layout(1, 1, 3))),
                            (table_of(Layout(2, 2, 2)), book_of(Layout(2, 2, 2))),
                            (Table(Disk(2, 5), [0, 1, 1, 1, 1, 0, 2, 2, 2, 2, 0, 3, 3, 3, 3, 0, 0, 0, 0, 0, 0, 0, 0, 0, 0]),
                             star(3))]:
            self.assertIs(keeps(table, book), True)
            writer, board = writer_for(table, book), Board(table, book)
            for start in range(0, len(table.entries), 5):
                events, broken = drawn_run(board, writer, start, 400, numbers)
                self.assertEqual((len(events), broken), (400, []))
                self.assertIs(is_run(table, book, writer, start, events), True)

    def test_of_the_greatest_products(self):
        # 16384 fillings with one value, and 9999 with two: just below and just above.
        for table, book in [(Table(Disk(14, 2), [0] * 16384), Book(1, [])), (Table(Disk(4, 5), [0] * 625), Book(32, [])),
                            (Table(Disk(13, 2), [number & 1 for number in range(8192)]), any_to_any(2)),
                            (Table(Disk(1, 64), [0] * 64), any_to_any(64))]:
            writer = writer_for(table, book)
            self.assertEqual((writer.size, len(writer.rules)), (book.size, len(table.entries)))
            for start in safe(table, book)[:3]:
                self.assertIsNone(breaking_run(table, book, writer, start))
        for table, book in [(Table(Disk(14, 2), [0] * 16384), Book(2, [])), (Table(Disk(4, 5), [0] * 625), any_to_any(33)),
                            (Table(Disk(13, 2), [None] * 8192), any_to_any(3)), (Table(Disk(9, 3), [0] * 19683), row(64)),
                            (Table(Disk(2, 64), [0] * 4096), any_to_any(64))]:
            with raises_too_many(self, len(table.entries) * book.size):
                writer_for(table, book)

    def test_a_great_one_that_stands(self):
        # Two copies and a mark, of bits: a filling tells the copy that the mark names.
        numbers = range(2 ** 12)
        entries = [(number >> 1 & 3) if number & 1 else (number >> 3 & 3) for number in numbers]
        table, book = Table(Disk(12, 2), entries), any_to_any(4)
        writer = writer_for(table, book)
        for start in (0, 1, 4095):
            self.assertIsNone(breaking_run(table, book, writer, start))
