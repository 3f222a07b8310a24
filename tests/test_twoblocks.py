"""Points 141 to 143, and what points 2, 7 to 9 say of two blocks."""

import unittest
from itertools import combinations, permutations, product

from leastspare.books import Book, any_to_any, parts, ring, row, star
from leastspare.disks import Disk
from leastspare.errors import InvalidContents, InvalidState, NotKept
from leastspare.judge import keeps, safe
from leastspare.tables import Table
from leastspare.twoblocks import shape_of, tables_of_two, two_blocks
from tests.support import NO_INTEGERS, fixed_numbers, no_fillings, no_lists, raises, raises_equal


def both_ways(size, pairs):
    return Book(size, [change for one, other in pairs for change in [(one, other), (other, one)]])


def renamed(book, names):
    return Book(book.size, [(names[one], names[other]) for one, other in book.changes])


def shape_by_search(book):
    """The shape of a two-way book that hangs together, by trying all orders of its values."""
    changes, values = set(book.changes), range(book.size)
    for hub in values:
        leaves = [value for value in values if value != hub]
        if changes == {change for leaf in leaves for change in [(hub, leaf), (leaf, hub)]}:
            return "star", hub, leaves
    if book.size == 3 and len(changes) == 6:
        return "triangle", [0, 1, 2]
    if book.size != 4:
        return None
    for order in permutations(values):
        near = list(zip(order, order[1:]))
        if changes == {change for one, other in near for change in [(one, other), (other, one)]}:
            return "row", list(order)
        near.append((order[3], order[0]))
        if changes == {change for one, other in near for change in [(one, other), (other, one)]}:
            return "ring", list(order)
    return None


def whole_books(size):
    """All two-way books of so many values that hang together."""
    pairs = list(combinations(range(size), 2))
    for many in range(size - 1, len(pairs) + 1):
        for chosen in combinations(pairs, many):
            book = both_ways(size, chosen)
            if len(parts(book)) == 1:
                yield book


class Examples(unittest.TestCase):
    def test_of_the_interface(self):
        told = [shape_of(star(3)), shape_of(row(3)), shape_of(row(2)), shape_of(any_to_any(3))]
        self.assertEqual(told, [("star", 0, [1, 2, 3]), ("star", 1, [0, 2]), ("star", 0, [1]), ("triangle", [0, 1, 2])])
        told = [shape_of(row(4)), shape_of(ring(4)), shape_of(ring(5)), shape_of(any_to_any(4))]
        self.assertEqual(told, [("row", [0, 1, 2, 3]), ("ring", [0, 1, 2, 3]), None, None])
        self.assertEqual(shape_of(Book(4, [(0, 3), (3, 0), (3, 2), (2, 3), (1, 0), (0, 1)])), ("row", [1, 0, 3, 2]))
        told = [two_blocks(star(2), 3).entries, two_blocks(any_to_any(3), 2).entries, two_blocks(ring(4), 2).entries]
        self.assertEqual(told, [(0, 1, 1, 0, 2, 2, 0, 0, 0), (0, 0, 1, 2), (0, 1, 3, 2)])
        self.assertEqual([tables_of_two("triangle", 2), tables_of_two("ring", 3)], [24, 72])
        with raises_equal(self, NotKept, "reason", "changes"):
            shape_of(Book(2, [(0, 1)]))
        with raises_equal(self, NotKept, "reason", "shape"):
            two_blocks(star(4), 3)


class Shapes(unittest.TestCase):
    def test_of_all_books_up_to_five_values(self):
        met = {}
        for size in range(2, 6):
            for book in whole_books(size):
                found, expected = shape_of(book), shape_by_search(book)
                self.assertEqual(found, expected)
                if found is not None:
                    self.assertIs(type(found), tuple)
                    self.assertIs(type(found[-1]), list)
                word = found and found[0]
                met[word] = met.get(word, 0) + 1
        # Stars: 1 of 2, 3 of 3, 4 of 4, 5 of 5 values; 12 rows and 3 rings of four.
        self.assertEqual([met[word] for word in ("star", "triangle", "row", "ring")], [13, 1, 12, 3])

    def test_stars_of_every_size(self):
        for leaves in range(1, 64):
            for hub in {0, 1, leaves // 2, leaves}:
                names = [hub] + [value for value in range(leaves + 1) if value != hub]
                book = renamed(star(leaves), names[::1])
                expected = ("star", 0, [1]) if leaves == 1 else ("star", hub, names[1:])
                self.assertEqual(shape_of(book), expected)

    def test_greater_ones_are_none(self):
        numbers = fixed_numbers(141)
        for size in (5, 6, 9, 20, 64):
            for book in (row(size), ring(size), any_to_any(size)):
                self.assertIsNone(shape_of(book))
            for _ in range(10):
                # Trees, and trees with one more pair.
                tree = [(next(numbers) % value if value > 2 else value - 1, value) for value in range(1, size)]
                self.assertEqual(shape_of(both_ways(size, tree)), shape_by_search(both_ways(size, tree)))
                pair = (0, size - 1) if (0, size - 1) not in tree else (1, size - 1)
                self.assertIsNone(shape_of(both_ways(size, tree + [pair])))

    def test_a_triangle_with_a_tail_is_none(self):
        for one, other, third, tail in permutations(range(4)):
            pairs = [(one, other), (other, third), (third, one), (third, tail)]
            self.assertIsNone(shape_of(both_ways(4, pairs)))

    def test_changes_ahead_of_parts(self):
        for book in (Book(2, [(0, 1)]), Book(3, [(0, 1), (1, 0), (1, 2)]), Book(4, [(0, 1)]), Book(3, [(1, 0)]),
                     Book(3, [(0, 1), (1, 2), (2, 0)]), Book(5, [(0, 1), (1, 0), (2, 3)])):
            with raises_equal(self, NotKept, "reason", "changes"):
                shape_of(book)
        for book in (Book(1, []), Book(2, []), Book(64, []), both_ways(4, [(0, 1), (2, 3)]), both_ways(4, [(1, 3), (2, 3)]),
                     both_ways(4, [(0, 1), (1, 2), (0, 2)]), both_ways(5, [(0, 1), (1, 2), (2, 3), (0, 3)])):
            with raises_equal(self, NotKept, "reason", "parts"):
                shape_of(book)

    def test_by_name_and_new_lists(self):
        found = shape_of(book=star(2))
        found[2].append(9)
        self.assertEqual(shape_of(star(2)), ("star", 0, [1, 2]))
        shape_of(ring(4))[1].clear()
        shape_of(any_to_any(3))[1].clear()
        self.assertEqual((shape_of(ring(4)), shape_of(any_to_any(3))), (("ring", [0, 1, 2, 3]), ("triangle", [0, 1, 2])))
        self.assertEqual(two_blocks(contents=2, book=ring(4)).entries, (0, 1, 3, 2))
        self.assertEqual(tables_of_two(contents=2, shape="row"), 8)


def entry_of(shape, contents, first, second):
    """What the table tells for a filling, as the document has it."""
    letters = ("A" if first < contents // 2 else "B") + ("A" if second < contents // 2 else "B")
    if shape[0] == "star":
        if second == 0 or first >= len(shape[2]):
            return shape[1]
        return shape[2][first]
    if shape[0] == "triangle":
        return {"AA": 0, "AB": 0, "BA": 1, "BB": 2}[letters]
    return dict(zip(["AA", "AB", "BB", "BA"], shape[1]))[letters]


class Tables(unittest.TestCase):
    def books(self):
        for size in (2, 3, 4):
            yield from [book for book in whole_books(size) if shape_of(book)]
        yield from [renamed(star(leaves), [hub] + [value for value in range(leaves + 1) if value != hub])
                    for leaves in (4, 5, 7) for hub in (0, 2, leaves)]

    def test_entry_by_entry(self):
        for book in self.books():
            for contents in (2, 3, 4, 5, 6, 7, 9):
                shape = shape_of(book)
                if shape[0] == "star" and len(shape[2]) > contents:
                    continue
                table = two_blocks(book, contents)
                expected = [entry_of(shape, contents, *filling) for filling in product(range(contents), repeat=2)]
                self.assertEqual(table, Table(Disk(2, contents), expected))
                self.assertIs(keeps(table, book), True)
                self.assertEqual(safe(table, book), list(range(contents ** 2)))

    def test_of_64_contents(self):
        for book in (star(1), star(63), any_to_any(3), row(4), ring(4), renamed(row(4), [2, 0, 3, 1])):
            table = two_blocks(book, 64)
            expected = [entry_of(shape_of(book), 64, *filling) for filling in product(range(64), repeat=2)]
            self.assertEqual(table.entries, tuple(expected))
            self.assertEqual(safe(table, book), list(range(4096)))

    def test_stars_with_as_many_leaves_as_contents_and_one_more(self):
        for contents in [2, 3, 4, 5, 31, 62, 63]:
            table = two_blocks(star(contents), contents)
            self.assertIs(keeps(table, star(contents)), True)
            if contents < 63:
                with raises_equal(self, NotKept, "reason", "shape"):
                    two_blocks(star(contents + 1), contents)
        self.assertIs(keeps(two_blocks(star(63), 64), star(63)), True)

    def test_errors_in_order(self):
        books = [Book(2, [(0, 1)]), Book(1, []), ring(5), star(3), any_to_any(2)]
        for book in books:
            for contents in [1, 0, 65, -2, 10 ** 60, *NO_INTEGERS]:
                with self.subTest(contents), raises(self, InvalidContents, "given", contents):
                    two_blocks(book, contents)
        for reason, wrong in [("changes", [Book(2, [(0, 1)]), Book(5, [(0, 1), (1, 0), (2, 3)]), Book(4, [(0, 1), (1, 2), (2, 0)])]),
                              ("parts", [Book(1, []), Book(3, []), both_ways(5, [(0, 1), (2, 3)])]),
                              ("shape", [ring(5), row(5), any_to_any(4), star(3), star(63), any_to_any(64)])]:
            for book in wrong:
                with raises_equal(self, NotKept, "reason", reason):
                    two_blocks(book, 2)

    def test_exactly_these(self):
        # Over all tables of two blocks of bits, and over all shapes of up to five values.
        kept = {}
        for entries in product([0, 1, 2, 3], repeat=4):
            size = max(entries) + 1
            for book in whole_books(size) if 2 <= size <= 4 else []:
                if keeps(Table(Disk(2, 2), entries), book):
                    kept[size, book.changes] = True
        for size in (2, 3, 4):
            for book in whole_books(size):
                shape = shape_of(book)
                may = shape is not None and (shape[0] != "star" or len(shape[2]) <= 2)
                self.assertIs((size, book.changes) in kept, may)

    def test_unsafe_books_of_five_values(self):
        # No more than nine fillings: a few of the tables with five values, none of which keeps such a book.
        numbers, books = fixed_numbers(142), [book for book in whole_books(5) if shape_of(book) is None][::60]
        for _ in range(300):
            entries = [next(numbers) % 5 for _ in range(9)]
            for book in books:
                self.assertIs(keeps(Table(Disk(2, 3), entries), book), False)


class HowMany(unittest.TestCase):
    def test_against_a_count_of_all_tables(self):
        for shape, book in [("triangle", any_to_any(3)), ("row", row(4)), ("ring", ring(4)), ("row", renamed(row(4), [2, 0, 3, 1]))]:
            tables = [Table(Disk(2, 2), entries) for entries in product([None, *range(book.size)], repeat=4)]
            kept = [table for table in tables if keeps(table, book)]
            self.assertEqual(tables_of_two(shape, 2), len(kept))
            for table in kept:
                self.assertEqual(safe(table, book), [0, 1, 2, 3])

    def test_of_three_contents(self):
        # All tables in which each value is told somewhere; what has None, or leaves a value out, has no safe fillings
        # of it. Of tables that are alike but for turned blocks or contents, only the least one is judged.
        for shape, book in [("triangle", any_to_any(3)), ("row", row(4)), ("ring", ring(4))]:
            found = 0
            for entries in self.least_tables(book.size):
                table = Table(Disk(2, 3), entries[0])
                if keeps(table, book):
                    found += entries[1]
                    self.assertEqual(len(safe(table, book)), 9)
            self.assertEqual(tables_of_two(shape, 3), found)

    def least_tables(self, size):
        """Each table with these values that is the least one of those with its contents renamed, and their number."""
        orders = list(permutations(range(3)))
        turns = [[3 * one[at // 3] + other[at % 3] for at in range(9)] for one in orders for other in orders]
        rows = list(product(range(size), repeat=3))
        # The rows of the least one ascend.
        for first, second, third in product(rows, repeat=3):
            if first <= second <= third:
                entries = first + second + third
                if len(set(entries)) == size:
                    turned = {tuple([entries[at] for at in turn]) for turn in turns}
                    if min(turned) == entries:
                        yield entries, len(turned)

    def test_by_the_formula(self):
        for contents in range(2, 65):
            classes = (2 ** contents - 2) ** 2
            self.assertEqual(tables_of_two("triangle", contents), 6 * classes)
            self.assertEqual(tables_of_two("row", contents), 2 * classes)
            self.assertEqual(tables_of_two("ring", contents), 2 * classes)

    def test_errors_in_order(self):
        for shape in no_lists() + no_fillings() + ["star", "Row", "row ", "triangles", ("row",), ("row", [0, 1, 2, 3]),
                                                   ["ring"], ("triangle", [0, 1, 2]), {"row": 1}, ("star", 0, [1])]:
            for contents in (2, 1, 65, None):
                with self.subTest(shape), raises(self, InvalidState, "given", shape):
                    tables_of_two(shape, contents)
        for shape in ("triangle", "row", "ring"):
            for contents in [1, 0, 65, -2, 10 ** 60, *NO_INTEGERS]:
                with self.subTest(contents), raises(self, InvalidContents, "given", contents):
                    tables_of_two(shape, contents)
