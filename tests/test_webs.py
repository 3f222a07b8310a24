"""Points 161 to 165, and what points 2, 7 to 10 say of webs."""

import unittest
from itertools import combinations, permutations, product

from leastspare.books import Book, any_to_any, ring, row, star
from leastspare.disks import Disk
from leastspare.errors import InvalidCount, InvalidRing, InvalidSteps, InvalidValues, NotKept
from leastspare.judge import keeps, safe
from leastspare.tables import Table
from leastspare.webs import (Web, ball, ball_values, book_rings, homes, ring_values, safe_homes, web_keeps, web_of,
                             web_rings)
from tests.board import books_of, tables_on
from tests.support import NO_INTEGERS, fixed_numbers, no_fillings, no_lists, raises, raises_equal, raises_too_many

FIVE = [(0, 1), (1, 2), (2, 3), (3, 4), (0, 4)]

# Not one of these is the steps of a web of three states.
NO_STEPS = no_lists() + [
    [(0, 1), (0, 1)], ((1, 2), (0, 1), (1, 2)), [(1, 0)], [(0, 1), (2, 1)], [(0, 1), (1, 0)], [(0, 0)], [(2, 2)],
    [(0, 3)], [(3, 4)], [(-1, 0)], [(-1, 1)], [(0, 10 ** 60)], [[0, 1]], [(0, 1), [1, 2]], [(0,)], [()], [(0, 1, 2)],
    (0, 1), [0, 1], [[]], [None], [0], ["01"], [{}], [(0, 1), None], [((0, 1),)], [([0], [1])], [(0, [1])], [(0, 1.0)],
    *[[(value, 2)] for value in NO_INTEGERS], *[[(0, value)] for value in NO_INTEGERS],
]


def some_webs(seed):
    """Webs of 1 to 200 states, with steps that look random, and values for their states."""
    numbers = fixed_numbers(seed)
    for at in range(160):
        states = 1 + next(numbers) % (9 if at % 8 else 200)
        pairs = list(combinations(range(states), 2))
        some = 1 + next(numbers) % (1 + states // 2)
        steps = [pair for pair in pairs if next(numbers) % some == 0]
        many = 1 + next(numbers) % 5
        none = 2 + next(numbers) % 9
        values = [None if next(numbers) % none == 0 else next(numbers) % many for _ in range(states)]
        if at % 7 == 0:
            values = [60 + value % 4 if value is not None and next(numbers) % 9 == 0 else value for value in values]
        yield Web(states, steps[::-1]), values, many


def listed_homes(web, values):
    """All homes, by a search of the tests' own."""
    near = {state: [] for state in range(web.states)}
    for one, other in web.steps:
        if values[one] is not None and values[one] == values[other]:
            near[one].append(other)
            near[other].append(one)
    found = set()
    for state in range(web.states):
        if values[state] is not None:
            met, ahead = {state}, [state]
            while ahead:
                for other in near[ahead.pop()]:
                    if other not in met:
                        met.add(other)
                        ahead.append(other)
            found.add((tuple(sorted(met)), values[state]))
    return sorted(found)


def listed_safe(web, values, book, choose):
    """The homes of the greatest safe set: one that lacks a neighbour is struck, the one that is chosen."""
    standing = [home for home in listed_homes(web, values) if home[1] < book.size]
    steps = {step for one, other in web.steps for step in [(one, other), (other, one)]}

    def beside(one, other):
        return any((a, b) in steps for a in one[0] for b in other[0])
    near = {home: [other for other in standing if beside(home, other)] for home in standing}
    while True:
        bad = [home for home in standing for one, other in book.changes if one == home[1]
               and not any(next_to in standing and next_to[1] == other for next_to in near[home])]
        if not bad:
            return standing
        standing.remove(choose(bad))


class Examples(unittest.TestCase):
    def test_of_the_interface(self):
        web = Web(5, FIVE)
        told = [web_rings(web), book_rings(ring(4)), book_rings(any_to_any(4)), ring_values(web, [0, 1, 2, 3, 4], 3)]
        self.assertEqual(told, [1, 1, 3, [0, 0, 1, 1, 2]])
        self.assertEqual(homes(web, [7, 1, 7, 7, None]), [((0,), 7), ((1,), 1), ((2, 3), 7)])
        told = [web_keeps(web, [0, 0, 1, 1, 2], ring(3)), safe_homes(web, [0, 1, 2, None, 3], row(3))]
        self.assertEqual(told, [True, [((0,), 0), ((1,), 1), ((2,), 2)]])
        told = [len(ball().steps), ball_values(), web_keeps(ball(), ball_values(), any_to_any(6)), web_rings(ball())]
        self.assertEqual(told, [30, [0, 1, 2, 3, 4, 5, 3, 4, 5, 1, 2, 0], True, 19])
        with raises_equal(self, NotKept, "reason", "changes"):
            book_rings(Book(2, [(0, 1)]))


class Webs(unittest.TestCase):
    def test_attributes(self):
        for order in permutations([(0, 1), (0, 2), (1, 2), (2, 3)]):
            for steps in (list(order), order):
                web = Web(4, steps)
                self.assertEqual((web.states, web.steps), (4, ((0, 1), (0, 2), (1, 2), (2, 3))))
                self.assertEqual((type(web.states), type(web.steps), type(web.steps[0])), (int, tuple, tuple))
        self.assertEqual(Web(steps=[], states=1).steps, ())

    def test_the_bounds(self):
        for states in (1, 2, 199, 200):
            every = list(combinations(range(states), 2))
            web = Web(states, every[::-1])
            self.assertEqual((web.states, web.steps), (states, tuple(every)))
            for wrong in ([(0, states)], [(states - 1, states)], [(states - 1, states - 1)]):
                with raises(self, InvalidSteps, "given", wrong):
                    Web(states, wrong)

    def test_errors_in_order(self):
        for states in [0, 201, -1, 10 ** 60, *NO_INTEGERS]:
            for steps in ([], [(0, 0)], None):
                with self.subTest(states), raises(self, InvalidCount, "given", states):
                    Web(states, steps)
        for value in no_lists() + no_fillings():
            if not isinstance(value, int) or isinstance(value, bool) or not 1 <= value <= 200:
                with self.subTest(value), raises(self, InvalidCount, "given", value):
                    Web(value, [])

    def test_wrong_steps(self):
        for steps in NO_STEPS:
            with self.subTest(steps), raises(self, InvalidSteps, "given", steps):
                Web(3, steps)
        for value in no_fillings():
            if not isinstance(value, (list, tuple)) or len(value) > 0:
                with self.subTest(value), raises(self, InvalidSteps, "given", value):
                    Web(3, value)

    def test_the_list_that_is_passed_may_change(self):
        steps = [(1, 2), (0, 1)]
        web = Web(3, steps)
        self.assertEqual(steps, [(1, 2), (0, 1)])
        steps.append((9, 9))
        self.assertEqual(web.steps, ((0, 1), (1, 2)))

    def test_equal_exactly_if_both_are(self):
        kinds = [(1, ()), (2, ()), (2, ((0, 1),)), (3, ((0, 1),)), (3, ((0, 2),)), (3, ((0, 1), (0, 2)))]
        for one, other in product(kinds, kinds):
            self.assertIs(Web(*one) == Web(*other), one == other)
            self.assertIs(Web(*one) != Web(*other), one != other)
        web = Web(2, [(0, 1)])
        for value in no_fillings() + [(2, ((0, 1),)), ((0, 1),), Disk(1, 2), Book(2, [(0, 1)])]:
            self.assertIs(web == value, False)
            self.assertIs(value == web, False)

    def test_of_disks(self):
        for pair in [(1, 2), (1, 64), (2, 2), (2, 3), (3, 3), (2, 14), (4, 3), (7, 2), (3, 5)]:
            fillings = list(product(range(pair[1]), repeat=pair[0]))
            steps = [(one, other) for one, other in combinations(range(len(fillings)), 2)
                     if sum(a != b for a, b in zip(fillings[one], fillings[other])) == 1]
            self.assertEqual(web_of(Disk(*pair)), Web(len(fillings), steps))
        self.assertEqual(web_of(disk=Disk(1, 2)), Web(2, [(0, 1)]))

    def test_of_disks_that_are_too_great(self):
        for pair in [(2, 15), (8, 2), (3, 6), (4, 4), (5, 3), (24, 64), (2, 64)]:
            with raises_too_many(self, pair[1] ** pair[0]):
                web_of(Disk(*pair))


class Homes(unittest.TestCase):
    def test_against_a_search_of_ones_own(self):
        for web, values, _ in some_webs(162):
            found = homes(web, values)
            self.assertEqual(found, listed_homes(web, values))
            self.assertEqual(homes(web, tuple(values)), found)
            self.assertIs(type(found), list)
            for home in found:
                self.assertEqual([type(part) for part in (home, *home)], [tuple, tuple, int])

    def test_of_all_values_and_of_none(self):
        web = Web(4, [(0, 1), (1, 2), (2, 3)])
        self.assertEqual(homes(web, [None] * 4), [])
        self.assertEqual(homes(web, [63, 63, 0, 63]), [((0, 1), 63), ((2,), 0), ((3,), 63)])
        self.assertEqual(homes(web, [0, None, 0, 0]), [((0,), 0), ((2, 3), 0)])

    def test_safe_homes_against_a_striking_in_other_orders(self):
        numbers, met = fixed_numbers(163), set()
        orders = [lambda bad: bad[0], lambda bad: bad[-1], lambda bad: bad[next(numbers) % len(bad)]]
        for at, (web, values, many) in enumerate(some_webs(164)):
            for place, book in enumerate(books_of(many, at)):
                expected = listed_safe(web, values, book, orders[(at + place) % 3])
                found = safe_homes(web, values, book)
                self.assertEqual(found, expected)
                self.assertIs(type(found), list)
                kept = {value for _, value in expected} == set(range(book.size))
                self.assertIs(web_keeps(web, values, book), kept)
                met.add((kept, len(expected) > 0, len(expected) < len(homes(web, values))))
        self.assertEqual(len(met), 6)

    def test_a_value_may_need_several_homes(self):
        # Around a ring of six: 0, 1, 2, 0, 1, 2; and 0 beside 3 at one place alone.
        web, values = Web(7, [(at, at + 1) for at in range(5)] + [(0, 5), (0, 6)]), [0, 1, 2, 0, 1, 2, 3]
        self.assertEqual(len(safe_homes(web, values, ring(3))), 6)
        book = Book(4, [*ring(3).changes, (3, 0)])
        self.assertEqual([home[0] for home in safe_homes(web, values, book)], [(at,) for at in range(7)])
        self.assertEqual(safe_homes(web, values, any_to_any(4)), [])
        # Of a row with values 0, 1, 0, 2 in the middle 0 has only 1 and 2; the first 0 has no 2.
        web = Web(4, [(0, 1), (1, 2), (2, 3)])
        self.assertEqual(safe_homes(web, [0, 1, 0, 2], Book(3, [(0, 1), (0, 2), (1, 0), (2, 0)])),
                         [((1,), 1), ((2,), 0), ((3,), 2)])

    def test_beside_safe_of_disks(self):
        for pair in [(1, 5), (2, 3), (3, 2), (4, 2), (2, 5), (3, 3), (7, 2), (4, 3), (2, 14)]:
            disk = Disk(*pair)
            web = web_of(disk)
            for at, (table, size) in list(enumerate(tables_on(disk, 165)))[::2 if pair[1] ** pair[0] < 99 else 7]:
                for book in books_of(min(size, 8), at):
                    found = safe_homes(web, table.entries, book)
                    numbers = sorted(state for states, _ in found for state in states)
                    self.assertEqual(numbers, safe(table, book, torn=False))
                    self.assertIs(web_keeps(web, table.entries, book), keeps(table, book, torn=False))

    def test_values_that_are_none(self):
        web = Web(3, [(0, 1)])
        wrong = no_lists() + [[], [0], [0, 0], [0] * 4, (0, 0), [0, 0, 64], [0, 0, -1], [0, 0, True], [False, 0, 0],
                              [0, "0", 0], [0, [0], 0], [[0, 0, 0]], [(0, 0, 0)], [0, 0, (0,)], [{}, 0, 0], [0, 0, 1.0],
                              [Disk(1, 2), 0, 0], [10 ** 60, 0, 0], ["", 0, 0], "000", {"0": 0, "1": 0, "2": 0}]
        for values in wrong:
            for call, more in [(homes, []), (safe_homes, [any_to_any(2)]), (web_keeps, [any_to_any(2)])]:
                with self.subTest(values), raises(self, InvalidValues, "given", values):
                    call(web, values, *more)

    def test_lists_that_are_returned_and_passed(self):
        web, values = Web(3, [(0, 1), (1, 2)]), [0, 1, 0]
        homes(web, values).clear()
        safe_homes(web, values, any_to_any(2)).clear()
        self.assertEqual(homes(web, values), safe_homes(web, values, any_to_any(2)))
        self.assertEqual((values, web), ([0, 1, 0], Web(3, [(0, 1), (1, 2)])))

    def test_by_name(self):
        given = {"values": [0, 1], "web": Web(2, [(0, 1)])}
        self.assertEqual(homes(**given), [((0,), 0), ((1,), 1)])
        self.assertEqual(safe_homes(book=row(2), **given), homes(**given))
        self.assertIs(web_keeps(book=row(2), **given), True)


def count_rings(states, steps):
    """Steps of which each closes a ring with those ahead of it: what is told by steps - states + parts."""
    part = list(range(states))
    closing = 0
    for one, other in steps:
        closing += part[one] == part[other]
        part = [part[one] if joined == part[other] else joined for joined in part]
    return closing


class Rings(unittest.TestCase):
    def test_of_webs(self):
        for web, _, _ in some_webs(166):
            self.assertEqual(web_rings(web), count_rings(web.states, web.steps))
        self.assertEqual([web_rings(Web(200, [])), web_rings(Web(1, [])), web_rings(Web(4, [(0, 1), (2, 3)]))], [0, 0, 0])
        self.assertEqual(web_rings(web=Web(5, FIVE)), 1)

    def test_of_books(self):
        numbers = fixed_numbers(167)
        for at in range(60):
            size = 1 + next(numbers) % 9 if at % 6 else 64
            some = 1 + next(numbers) % size
            pairs = [pair for pair in combinations(range(size), 2) if next(numbers) % some == 0]
            book = Book(size, pairs + [(other, one) for one, other in pairs])
            self.assertEqual(book_rings(book), count_rings(size, pairs))
        for book, rings in [(any_to_any(64), 1953), (star(63), 0), (row(64), 0), (ring(64), 1), (Book(9, []), 0)]:
            self.assertEqual(book_rings(book=book), rings)

    def test_of_books_that_are_not_two_way(self):
        for book in (Book(2, [(0, 1)]), Book(2, [(1, 0)]), Book(3, [(0, 1), (1, 0), (2, 1)]),
                     Book(3, [(0, 1), (1, 2), (2, 0)]), Book(64, [(0, 63)])):
            with raises_equal(self, NotKept, "reason", "changes"):
                book_rings(book)

    def test_rings_cost_rings(self):
        kept = 0
        for web, values, many in some_webs(168):
            for book in [book for book in books_of(many, 1) if book.changes == tuple(sorted(change[::-1] for change in
                                                                                             book.changes))]:
                if web_keeps(web, values, book):
                    kept += 1
                    self.assertGreaterEqual(web_rings(web), book_rings(book))
                    states = sorted(state for home, _ in safe_homes(web, values, book) for state in home)
                    steps = [(states.index(one), states.index(other)) for one, other in web.steps
                             if one in states and other in states]
                    self.assertGreaterEqual(web_rings(Web(len(states), steps)), book_rings(book))
        self.assertGreater(kept, 50)


class Counters(unittest.TestCase):
    def test_values_along_a_ring(self):
        for many in (3, 4, 5, 9, 63, 64, 65, 200):
            web = Web(200, [(at, at + 1) for at in range(many - 1)] + [(0, many - 1)])
            for count in {3, 4, many // 2, many - 1, many, 64} & set(range(3, min(many, 64) + 1)):
                values = ring_values(web, list(range(many)), count)
                self.assertEqual(values, [at * count // many for at in range(many)] + [None] * (200 - many))
                self.assertIs(web_keeps(web, values, ring(count)), True)

    def test_rings_turned_and_begun_elsewhere(self):
        web = Web(6, FIVE + [(1, 5), (4, 5)])
        for at in range(5):
            order = [(at + step) % 5 for step in range(5)]
            for states in (order, order[::-1], tuple(order)):
                for count in (3, 4, 5):
                    expected = [None] * 6
                    for place, state in enumerate(states):
                        expected[state] = place * count // 5
                    self.assertEqual(ring_values(web, states, count), expected)
                    self.assertIs(web_keeps(web, expected, ring(count)), True)
        self.assertEqual(ring_values(web, [5, 1, 0, 4], 4), [2, 1, None, None, 3, 0])
        self.assertEqual(ring_values(web, [5, 1, 0, 4], 3), [1, 0, None, None, 2, 0])

    def test_lists_that_are_no_ring(self):
        web = Web(6, FIVE + [(1, 5)])
        wrong = no_lists() + [[], [0], [0, 1], [0, 1, 2], [0, 1, 2, 3], [0, 2, 1, 3, 4], [0, 1, 2, 3, 4, 0], [1, 2, 3, 4],
                              [0, 1, 2, 3, 4, 5], [0, 1, 0], [0, 1, 2, 1], [0, 1, 2, 3, 4] * 2, [1, 5, 1], [0, 1, 2, 3, -2],
                              [0, 1, 2, 3, 6], [False, 1, 2, 3, 4], [0, True, 2, 3, 4], [0, 1, 2, 3, "4"], [[0], 1, 2, 3, 4],
                              [(0, 1), (1, 2), (2, 3)], [None] * 3, [[0, 1, 2, 3, 4]], [0, 1, 2, 3, 10 ** 60], "01234",
                              [0, 0, 0], [0, 1, 2, 3, 4.0]]
        for states in wrong:
            for count in (3, 2, None):
                with self.subTest(states), raises(self, InvalidRing, "given", states):
                    ring_values(web, states, count)
        for states in no_fillings():
            with self.subTest(states), raises(self, InvalidRing, "given", states):
                ring_values(web, states, 3)

    def test_counts_at_the_bounds(self):
        for many, most in [(3, 3), (5, 5), (64, 64), (65, 64), (200, 64)]:
            web, states = Web(many, [(at, at + 1) for at in range(many - 1)] + [(0, many - 1)]), list(range(many))
            self.assertEqual(max(ring_values(web, states, most)), most - 1)
            self.assertEqual(max(ring_values(web, states, 3)), 2)
            for count in [2, most + 1, 0, -3, 10 ** 60, *NO_INTEGERS]:
                with self.subTest(count), raises(self, InvalidCount, "given", count):
                    ring_values(web, states, count)

    def test_all_webs_of_up_to_five_states(self):
        # A web keeps a ring of a count with some values exactly if it has a ring of so many states.
        for states in (3, 4):
            pairs = list(combinations(range(states), 2))
            for chosen in product([True, False], repeat=len(pairs)):
                web = Web(states, [pair for pair, stands in zip(pairs, chosen) if stands])
                rings = [order for many in range(3, states + 1) for order in permutations(range(states), many)
                         if all(tuple(sorted(step)) in web.steps for step in zip(order, order[1:] + order[:1]))]
                for count in range(3, states + 1):
                    long = [order for order in rings if len(order) >= count]
                    found = any(web_keeps(web, values, ring(count)) for values in product(range(count), repeat=states))
                    self.assertIs(found, len(long) > 0)
                    for order in long:
                        self.assertIs(web_keeps(web, ring_values(web, order, count), ring(count)), True)

    def test_by_name_and_new_lists(self):
        web, states = Web(5, FIVE), [0, 1, 2, 3, 4]
        ring_values(count=3, states=states, web=web).clear()
        self.assertEqual((ring_values(web, states, 3), states), ([0, 0, 1, 1, 2], [0, 1, 2, 3, 4]))


class DrawnFlat(unittest.TestCase):
    def near(self, web):
        found = {state: set() for state in range(web.states)}
        for one, other in web.steps:
            found[one].add(other)
            found[other].add(one)
        return found

    def test_the_ball(self):
        upper = [(0, corner) for corner in (1, 2, 3, 4, 5)] + [(1, 2), (2, 3), (3, 4), (4, 5), (1, 5)]
        lower = [(corner, 11) for corner in (6, 7, 8, 9, 10)] + [(6, 7), (7, 8), (8, 9), (9, 10), (6, 10)]
        between = [(1, 6), (2, 7), (3, 8), (4, 9), (5, 10), (1, 7), (2, 8), (3, 9), (4, 10), (5, 6)]
        self.assertEqual(ball(), Web(12, upper + lower + between))
        self.assertEqual({len(others) for others in self.near(ball()).values()}, {5})
        # Each step has a triangle on both of its sides.
        near = self.near(ball())
        self.assertEqual({len(near[one] & near[other]) for one, other in ball().steps}, {2})

    def test_its_values(self):
        near, values = self.near(ball()), ball_values()
        for one, other in combinations(range(12), 2):
            opposite = other not in near[one] and not near[one] & near[other]
            self.assertIs(values[one] == values[other], opposite)
            if opposite:
                self.assertEqual(values[other], one)
        self.assertEqual(sorted(values), sorted(list(range(6)) * 2))

    def test_six_values_any_to_any(self):
        self.assertIs(web_keeps(ball(), ball_values(), any_to_any(6)), True)
        self.assertEqual(len(safe_homes(ball(), ball_values(), any_to_any(6))), 12)
        self.assertIs(web_keeps(ball(), ball_values(), any_to_any(7)), False)
        for at in range(12):
            values = ball_values()
            values[at] = 6
            self.assertIs(web_keeps(ball(), values, any_to_any(7)), False)

    def test_new_lists(self):
        ball_values().clear()
        ball_values()[0] = 9
        self.assertEqual(ball_values()[0], 0)
        self.assertEqual(ball(), ball())
