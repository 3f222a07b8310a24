"""Points 101 and 102, and what points 2, 8 and 9 say of books."""

import unittest
from itertools import permutations, product

from leastspare.books import Book, any_to_any, is_two_way, parts, ring, row, star, wishes_of
from leastspare.disks import Disk
from leastspare.errors import InvalidCount, InvalidPairs, InvalidValue, InvalidValues
from tests.support import NO_INTEGERS, fixed_numbers, no_fillings, no_lists, raises

# Not one of these is the changes of a Book of three values.
NO_CHANGES = no_lists() + [
    [(0, 1), (0, 1)], [(0, 1), (1, 2), (0, 1)], ((2, 0), (2, 0)), [(0, 0)], [(2, 2)], [(0, 1), (1, 1)], [(0, 3)], [(3, 0)],
    [(-1, 0)], [(0, -1)], [(0, 10 ** 60)], [[0, 1]], [(0, 1), [1, 2]], [(0,)], [()], [(0, 1, 2)], (0, 1), [0, 1], [[]],
    [None], [0], ["01"], [{}], [(0, 1), None], [((0, 1),)], [([0], [1])], [(0, [1])], [({}, 0)], [[(0, 1)]],
    *[[(value, 2)] for value in NO_INTEGERS], *[[(2, value)] for value in NO_INTEGERS],
]


def some_books():
    """Books of many sizes with changes that look random."""
    numbers = fixed_numbers(101)
    for at in range(150):
        size = 1 + next(numbers) % 9 if at % 10 else 64
        pairs = list(permutations(range(size), 2))
        keep = 1 + next(numbers) % (3 * size)
        yield size, [pair for pair in pairs if next(numbers) % keep == 0]


class Examples(unittest.TestCase):
    def test_of_the_interface(self):
        told = [ring(3) == any_to_any(3), row(3).changes, star(2).changes, row(1).changes, row(2) == star(1)]
        changes = [((0, 1), (1, 0), (1, 2), (2, 1)), ((0, 1), (0, 2), (1, 0), (2, 0)), ()]
        self.assertEqual(told, [True, *changes, True])
        book = Book(4, [(2, 0), (0, 2), (3, 0)])
        told = [book.changes, wishes_of(book, 0), wishes_of(book, 1), is_two_way(book), parts(book)]
        self.assertEqual(told, [((0, 2), (2, 0), (3, 0)), [2], [], False, [[0, 2, 3], [1]]])
        wrong = [(0, 1), (1, 2), (0, 1)]
        with raises(self, InvalidPairs, "given", wrong):
            Book(3, wrong)


class Books(unittest.TestCase):
    def test_of_every_size(self):
        for size in range(1, 65):
            every = list(permutations(range(size), 2))
            for changes in ([], every, every[::-3]):
                book = Book(size, changes)
                self.assertEqual((book.size, book.changes), (size, tuple(sorted(changes))))
                self.assertEqual((type(book.size), type(book.changes)), (int, tuple))

    def test_one_beyond_the_bounds(self):
        for size in (0, 65, -1, 10 ** 60):
            with raises(self, InvalidValues, "given", size):
                Book(size, [])
        for value in NO_INTEGERS + no_lists():
            if not isinstance(value, int) or isinstance(value, bool):
                with self.subTest(value), raises(self, InvalidValues, "given", value):
                    Book(value, [])

    def test_changes_in_any_order(self):
        changes = [(0, 1), (1, 2), (2, 0), (2, 1)]
        for order in permutations(changes):
            self.assertEqual(Book(3, list(order)).changes, tuple(changes))
            self.assertEqual(Book(3, order), Book(changes=changes, size=3))

    def test_wrong_changes(self):
        for value in NO_CHANGES:
            with self.subTest(value), raises(self, InvalidPairs, "given", value):
                Book(3, value)
        for size in range(1, 65):
            for value in ([(0, size)], [(size, 0)], [(size - 1, size - 1)]):
                with raises(self, InvalidPairs, "given", value):
                    Book(size, value)

    def test_the_size_is_judged_first(self):
        for size in (0, 65, True, None):
            for changes in ([], [(0, 0)], None):
                with raises(self, InvalidValues, "given", size):
                    Book(size, changes)

    def test_the_list_that_is_passed_may_change(self):
        changes = [(2, 1), (0, 1)]
        book = Book(3, changes)
        self.assertEqual(changes, [(2, 1), (0, 1)])
        changes.append((9, 9))
        self.assertEqual(book.changes, ((0, 1), (2, 1)))

    def test_equal_exactly_if_both_are(self):
        kinds = [(1, ()), (2, ()), (2, ((0, 1),)), (2, ((1, 0),)), (2, ((0, 1), (1, 0))), (3, ((0, 1), (1, 0)))]
        for one, other in product(kinds, kinds):
            self.assertIs(Book(*one) == Book(*other), one == other)
            self.assertIs(Book(*one) != Book(*other), one != other)

    def test_unequal_to_all_else(self):
        book = Book(2, [(0, 1)])
        for value in no_fillings() + [(2, ((0, 1),)), [2, [(0, 1)]], ((0, 1),), Disk(2, 2)]:
            self.assertIs(book == value, False)
            self.assertIs(value == book, False)
            self.assertIs(book != value, True)


class WhatIsToldOfBooks(unittest.TestCase):
    def test_wishes_of(self):
        for size, changes in some_books():
            book = Book(size, changes[::-1])
            for value in range(size):
                self.assertEqual(wishes_of(book, value), [other for other in range(size) if (value, other) in changes])

    def test_wishes_of_what_is_no_value(self):
        for size in (1, 3, 64):
            for value in [-1, size, size + 1, 10 ** 60, *NO_INTEGERS]:
                with self.subTest(value), raises(self, InvalidValue, "given", value):
                    wishes_of(any_to_any(size), value)

    def test_is_two_way(self):
        for size, changes in some_books():
            back = [(other, one) for one, other in changes]
            self.assertIs(is_two_way(Book(size, changes)), sorted(back) == sorted(changes))
            self.assertIs(is_two_way(Book(size, sorted({*changes, *back}))), True)
        for size in (1, 2, 64):
            self.assertIs(is_two_way(Book(size, [])), True)
        self.assertIs(is_two_way(Book(3, [(0, 1), (1, 2), (2, 0)])), False)

    def reached(self, size, changes, value):
        """All values that hang together with this one."""
        near = {one: [] for one in range(size)}
        for one, other in changes:
            near[one].append(other)
            near[other].append(one)
        found, ahead = {value}, [value]
        while ahead:
            for other in near[ahead.pop()]:
                if other not in found:
                    found.add(other)
                    ahead.append(other)
        return sorted(found)

    def test_parts(self):
        for size, changes in some_books():
            listed = sorted({tuple(self.reached(size, changes, value)) for value in range(size)})
            found = parts(Book(size, changes))
            self.assertEqual(found, [list(part) for part in listed])

    def test_parts_that_hang_together_late(self):
        self.assertEqual(parts(Book(6, [(1, 2), (3, 4), (4, 2), (5, 0)])), [[0, 5], [1, 2, 3, 4]])
        self.assertEqual(parts(Book(5, [(4, 3), (2, 3), (2, 1), (1, 0)])), [[0, 1, 2, 3, 4]])
        self.assertEqual(parts(Book(3, [])), [[0], [1], [2]])

    def test_by_name(self):
        book = Book(3, [(0, 2)])
        self.assertEqual(wishes_of(value=0, book=book), [2])
        self.assertIs(is_two_way(book=book), False)
        self.assertEqual(parts(book=book), [[0, 2], [1]])

    def test_the_lists_may_be_changed(self):
        book = Book(3, [(0, 1), (0, 2)])
        wishes_of(book, 0).clear()
        for part in parts(book):
            part.clear()
        parts(book).clear()
        self.assertEqual((wishes_of(book, 0), parts(book)), ([1, 2], [[0, 1, 2]]))
        self.assertEqual(book.changes, ((0, 1), (0, 2)))


class SomeBooks(unittest.TestCase):
    def test_any_to_any(self):
        for many in range(1, 65):
            self.assertEqual(any_to_any(many), Book(many, list(permutations(range(many), 2))))

    def test_star(self):
        for leaves in range(64):
            changes = [(0, leaf) for leaf in range(1, leaves + 1)] + [(leaf, 0) for leaf in range(1, leaves + 1)]
            self.assertEqual(star(leaves), Book(leaves + 1, changes))

    def test_row(self):
        for many in range(1, 65):
            near = [(one, other) for one, other in permutations(range(many), 2) if abs(one - other) == 1]
            self.assertEqual(row(many), Book(many, near))

    def test_ring(self):
        for many in range(3, 65):
            near = [(one, other) for one, other in permutations(range(many), 2)
                    if (one - other) % many in (1, many - 1)]
            self.assertEqual(ring(many), Book(many, near))
        self.assertEqual(ring(4).changes, ((0, 1), (0, 3), (1, 0), (1, 2), (2, 1), (2, 3), (3, 0), (3, 2)))

    def test_are_books(self):
        for book in (any_to_any(1), star(0), row(1)):
            self.assertEqual((type(book), book.size, book.changes), (Book, 1, ()))
        self.assertIs(type(ring(3)), Book)
        for book in (any_to_any(9), star(9), row(9), ring(9)):
            self.assertIs(is_two_way(book), True)
            self.assertEqual(parts(book), [list(range(book.size))])

    def test_one_beyond_the_bounds(self):
        for call, low, high in [(any_to_any, 1, 64), (row, 1, 64), (ring, 3, 64), (star, 0, 63)]:
            self.assertEqual(call(low).size, low + (call == star))
            self.assertEqual(call(high).size, 64)
            for value in [low - 1, high + 1, -high, 10 ** 60, *NO_INTEGERS]:
                with self.subTest(value), raises(self, InvalidCount, "given", value):
                    call(value)

    def test_by_name(self):
        self.assertEqual(any_to_any(count=3), ring(count=3))
        self.assertEqual(row(count=2), star(leaves=1))
