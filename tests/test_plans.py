"""Points 61 to 63, and what points 8 and 9 say of reading and of plans."""

import unittest
from itertools import product

from leastspare.errors import InvalidFilling, InvalidWish
from leastspare.layouts import Layout, disk_of
from leastspare.plans import plan, read
from tests.model import Model
from tests.support import fixed_numbers, no_fillings, no_lists, raises

SMALL = [(1, 1, 2), (1, 1, 3), (1, 1, 4), (2, 1, 2), (2, 2, 2), (2, 1, 3), (2, 2, 3), (3, 1, 2), (3, 2, 2), (3, 3, 2)]
GREAT = [(8, 4, 2), (8, 3, 3), (7, 2, 5), (8, 8, 64), (8, 4, 64), (6, 2, 15), (5, 2, 4)]


def some_fillings(model, many, seed):
    """Some fillings, with the mark at each end of both classes among them, and any places."""
    numbers, half = fixed_numbers(seed), model.contents // 2
    for at in range(many):
        mark = (0, half - 1, half, model.contents - 1)[at % 4]
        yield tuple(next(numbers) % model.contents for _ in range(model.mark)) + (mark,)


def some_wishes(model, many, seed):
    """Some wishes of every size."""
    numbers = fixed_numbers(seed)
    for at in range(many):
        order = sorted(range(model.records), key=lambda record: next(numbers))
        chosen = sorted(order[:at % (model.changes + 1)])
        yield [(record, next(numbers) % model.contents) for record in chosen]


class Examples(unittest.TestCase):
    def test_of_the_interface(self):
        layout = Layout(3, 1, 4)
        told = [read(layout, (1, 2, 3, 0, 1, last)) for last in (0, 2)] + [read(layout, (1, 2, 3, 0, 3, 3))]
        self.assertEqual(told, [(1, 2, 3), (1, 0, 3), (0, 2, 3)])
        told = plan(layout, (1, 2, 3, 0, 1, 2), [(2, 1)])
        self.assertEqual(told, [[(1, 0)], [(5, 0)], [(3, 1), (4, 2)], [(5, 2)]])
        told = plan(layout, (1, 2, 3, 0, 1, 0), [(2, 1)])
        self.assertEqual(told, [[], [], [(3, 1), (4, 2)], [(5, 2)]])
        told = [plan(layout, (1, 2, 3, 0, 1, 2), []), read(Layout(3, 2, 4), (0, 1, 2, 3, 3, 2, 3))]
        self.assertEqual(told, [[[], [], [], []], (0, 3, 3)])
        told = plan(Layout(3, 2, 4), (0, 1, 2, 3, 3, 2, 3), [(2, 1)])
        self.assertEqual(told, [[(1, 3), (2, 3)], [(6, 0)], [(3, 0), (4, 1), (5, 1)], [(6, 2)]])
        wrong = [(1, 1), (2, 1)]
        with raises(self, InvalidWish, "given", wrong):
            plan(layout, (1, 2, 3, 0, 1, 0), wrong)


class Reading(unittest.TestCase):
    def test_every_filling(self):
        for triple in SMALL + [(4, 2, 2), (1, 1, 9)]:
            model = Model(*triple)
            for filling in model.fillings():
                self.assertEqual(read(model.layout, filling), model.read(filling))

    def test_some_fillings_of_great_layouts(self):
        for seed, triple in enumerate(GREAT):
            model = Model(*triple)
            for filling in some_fillings(model, 60, seed):
                self.assertEqual(read(model.layout, filling), model.read(filling))

    def test_the_mark_at_each_end_of_both_classes(self):
        for contents in (2, 3, 4, 5, 63, 64):
            layout, half = Layout(2, 2, contents), contents // 2
            for mark, told in [(0, (0, 1)), (half - 1, (0, 1)), (half, (1, 0)), (contents - 1, (1, 0))]:
                self.assertEqual(read(layout, (0, 1, 1, 0, mark)), told)

    def test_places_that_tell_any_lot(self):
        # Three lots, and the code 3 tells the first one again.
        layout = Layout(3, 2, 2)
        told = [read(layout, (0, 0, 0, 1, 1, *codes, 1)) for codes in product(range(2), repeat=2)]
        self.assertEqual(told, [(1, 1, 0), (1, 0, 1), (0, 1, 1), (1, 1, 0)])
        self.assertEqual(read(Layout(8, 1, 9), (0,) * 8 + (5, 8, 4)), (5,) + (0,) * 7)

    def test_by_name(self):
        self.assertEqual(read(filling=(0, 1, 1), layout=Layout(1, 1, 2)), (1,))

    def test_wrong_fillings(self):
        layout = Layout(3, 1, 4)
        wrong = [(1, 2, 3, 0, 1), (1, 2, 3, 0, 1, 0, 0), (1, 2, 3, 0, 1, 4), (1, 2, 3, 0, -1, 0), [1, 2, 3, 0, 1, 0]]
        for value in wrong + [(1, 2, 3, True, 1, 0), (1, 2, 3), *no_fillings()]:
            with self.subTest(value), raises(self, InvalidFilling, "given", value):
                read(layout, value)


class Plans(unittest.TestCase):
    def check(self, model, filling, wish):
        groups = plan(model.layout, filling, wish)
        self.assertEqual(groups, model.plan(filling, wish))
        self.assertEqual(plan(model.layout, filling, tuple(wish)), groups)
        self.assertEqual([type(group) for group in groups], [list] * 4)
        for group in groups:
            self.assertEqual(len({block for block, _ in group}), len(group))
        most = 2 * model.changes + model.places + 2
        self.assertLessEqual(sum(len(group) for group in groups), most)

    def test_from_every_filling(self):
        for triple in SMALL:
            model = Model(*triple)
            wishes = model.wishes()
            for filling in model.fillings():
                for wish in wishes:
                    self.check(model, filling, wish)

    def test_of_great_layouts(self):
        for seed, triple in enumerate(GREAT):
            model = Model(*triple)
            for filling, wish in zip(some_fillings(model, 120, seed), some_wishes(model, 120, seed + 1)):
                self.check(model, filling, wish)

    def test_the_most_writes(self):
        groups = plan(Layout(8, 4, 2), (0,) * 19 + (1,), [(0, 1)])
        self.assertEqual([len(group) for group in groups], [4, 1, 11, 1])

    def test_of_the_empty_wish(self):
        for mark in range(4):
            for wish in ([], ()):
                groups = plan(Layout(3, 1, 4), (1, 2, 3, 0, 1, mark), wish)
                self.assertEqual(groups, [[], [], [], []])
                self.assertEqual(len({id(group) for group in groups}), 4)

    def test_of_contents_that_stand(self):
        layout = Layout(2, 1, 2)
        self.assertEqual(plan(layout, (0, 1, 0, 0, 0), [(1, 1)]), [[], [], [(2, 1), (3, 1)], [(4, 1)]])
        # The news have 1, and they are those of record 1: it goes home, though 1 is there.
        self.assertEqual(plan(layout, (0, 1, 1, 1, 1), [(1, 1)]), [[(1, 1)], [(4, 0)], [(2, 1), (3, 1)], [(4, 1)]])

    def test_of_other_contents_of_class_a(self):
        # The mark is not written to 0 if it has class A, whatever its content.
        for mark in range(3):
            groups = plan(Layout(1, 1, 6), (5, 0, mark), [(0, 4)])
            self.assertEqual(groups, [[], [], [(1, 4)], [(2, 3)]])
        for mark in range(3, 6):
            groups = plan(Layout(1, 1, 6), (5, 0, mark), [(0, 4)])
            self.assertEqual(groups, [[(0, 0)], [(2, 0)], [(1, 4)], [(2, 3)]])

    def test_by_name(self):
        groups = plan(wish=[(0, 1)], filling=(0, 0, 0), layout=Layout(1, 1, 2))
        self.assertEqual(groups, [[], [], [(1, 1)], [(2, 1)]])

    def test_errors_in_order(self):
        layout, filling = Layout(3, 1, 4), (1, 2, 3, 0, 1, 2)
        wrong = [[(1, 1), (2, 1)], [(3, 0)], [(0, 4)], [[0, 1]], (0, 1), [(True, 1)], [(0, None)], [(0,)], *no_lists()]
        for wish in wrong:
            with self.subTest(wish), raises(self, InvalidWish, "given", wish):
                plan(layout, filling, wish)
        for value in no_fillings() + [list(filling), filling[:5], filling[:5] + (4,), filling + (0,)]:
            for wish in ([(2, 1)], [(3, 1)], None):
                with self.subTest(value), raises(self, InvalidFilling, "given", value):
                    plan(layout, value, wish)

    def test_the_lists_may_be_changed(self):
        layout, filling, wish = Layout(3, 1, 4), (1, 2, 3, 0, 1, 2), [(2, 1)]
        groups = plan(layout, filling, wish)
        self.assertEqual(len({id(group) for group in groups}), 4)
        for group in groups:
            group.append((0, 0))
        groups.clear()
        self.assertEqual(wish, [(2, 1)])
        self.assertEqual(plan(layout, filling, wish), [[(1, 0)], [(5, 0)], [(3, 1), (4, 2)], [(5, 2)]])


class CutAnywhere(unittest.TestCase):
    """Each write of the group at work is done, not done, or torn."""

    def test_on_small_layouts(self):
        for triple in SMALL:
            model = Model(*triple)
            told = {filling: read(model.layout, filling) for filling in model.fillings()}
            wishes = model.wishes()
            for filling, wish in product(told, wishes):
                old, new = told[filling], model.grant(told[filling], wish)
                now = filling
                for number, group in enumerate(plan(model.layout, filling, wish)):
                    allowed = (old, new) if number == 3 else (old,)
                    found = {told[left] for left in model.left(now, group, True)}
                    self.assertLessEqual(found, set(allowed))
                    now = model.behind(now, group)
                self.assertEqual(told[now], new)

    def test_on_some_great_layouts(self):
        for seed, triple in enumerate([(5, 2, 2), (4, 2, 3), (3, 1, 4), (6, 3, 2)]):
            model = Model(*triple)
            self.assertEqual(disk_of(model.layout), model.disk)
            for filling, wish in zip(some_fillings(model, 24, seed), some_wishes(model, 24, seed + 7)):
                old = read(model.layout, filling)
                now = filling
                for number, group in enumerate(plan(model.layout, filling, wish)):
                    allowed = (old, model.grant(old, wish)) if number == 3 else (old,)
                    for left in model.left(now, group, True):
                        self.assertIn(read(model.layout, left), allowed)
                    now = model.behind(now, group)
                self.assertEqual(read(model.layout, now), model.grant(old, wish))
