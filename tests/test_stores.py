"""Points 71 to 74, and what points 4, 7, 8 and 9 say of stores."""

import unittest
from itertools import product

from leastspare.disks import Disk
from leastspare.drives import Drive
from leastspare.errors import Busy, InvalidFilling, InvalidWish, NotLeft, NoWish, OtherDisk
from leastspare.layouts import Layout, disk_of
from leastspare.plans import read
from leastspare.stores import Store
from tests.model import Model
from tests.support import fixed_numbers, no_fillings, no_lists, raises, raises_equal

SMALL = [(1, 1, 2), (2, 1, 2), (2, 2, 2), (1, 1, 3), (3, 2, 2), (2, 2, 3)]

NO_WISHES = no_lists() + [
    [(1, 1), (2, 1)], [(3, 0)], [(0, 4)], [(-1, 0)], [[0, 1]], (0, 1), [(True, 1)], [(0, None)], [(0,)], [()], [None],
]


def open_store(model, filling, torn=True):
    """A drive, and a store on it."""
    drive = Drive(model.disk, filling, torn=torn)
    return drive, Store(drive, model.layout)


def steps_of(groups):
    steps = []
    for group in groups:
        steps += [("write", *write) for write in group] + [("sync",)] * bool(group)
    return steps + [("done",)]


def state_of(drive, store):
    told = (store.records(), store.answered(), store.under_way())
    return told + (drive.pending(), drive.settled(), drive.filling(), drive.left())


class Examples(unittest.TestCase):
    def test_the_first(self):
        layout = Layout(3, 1, 4)
        store = Store(Drive(disk_of(layout), (1, 2, 3, 0, 1, 0)), layout)
        self.assertIsNone(store.begin([(2, 1)]))
        told = [store.step(), store.step(), store.step(), store.step(), store.records()]
        self.assertEqual(told, [("write", 3, 1), ("write", 4, 2), ("sync",), ("write", 5, 2), (1, 2, 1)])
        self.assertIsNone(store.cut((1, 2, 3, 1, 2, 1)))
        told = [store.records(), store.under_way(), store.answered(), store.change([(2, 0)]), store.records()]
        self.assertEqual(told, [(1, 2, 3), None, [], 3, (1, 2, 0)])
        self.assertEqual(store.answered(), [[(2, 0)]])
        with self.assertRaises(NoWish) as caught:
            store.step()
        self.assertEqual(vars(caught.exception), {})

    def test_the_second(self):
        layout = Layout(1, 1, 2)
        store = Store(Drive(disk_of(layout), (0, 0, 0)), layout)
        store.begin([(0, 1)])
        told = [store.step(), store.step(), store.step(), store.records()]
        self.assertEqual(told, [("write", 1, 1), ("sync",), ("write", 2, 1), (1,)])
        store.cut((0, 1, 1))
        self.assertEqual([store.records(), store.answered(), store.under_way()], [(1,), [], None])

    def test_the_third(self):
        layout = Layout(2, 2, 2)
        store = Store(Drive(disk_of(layout), (1, 0, 0, 1, 1), torn=False), layout)
        told = [store.records(), store.change([]), store.begin([(0, 1)]), store.under_way()]
        self.assertEqual(told, [(0, 1), 0, None, [(0, 1)]])
        told = [store.step(), store.step(), store.step(), store.step(), store.step()]
        self.assertEqual(told, [("write", 0, 0), ("write", 1, 1), ("sync",), ("write", 4, 0), ("sync",)])
        self.assertEqual([store.records(), store.answered()], [(0, 1), [[]]])
        with raises_equal(self, Busy, "wish", [(0, 1)]):
            store.begin([(1, 0)])


class Opening(unittest.TestCase):
    def test_on_any_filling(self):
        for triple, torn in product(SMALL, (True, False)):
            model = Model(*triple)
            for filling in model.fillings():
                drive, store = open_store(model, filling, torn)
                told = (model.read(filling), [], None)
                self.assertEqual(state_of(drive, store), told + ([], filling, filling, [filling]))
                self.assertIs(drive.torn, torn)

    def test_on_another_disk(self):
        layout = Layout(3, 1, 4)
        for blocks, contents in [(5, 4), (7, 4), (6, 3), (6, 5), (1, 2), (24, 64)]:
            drive = Drive(Disk(blocks, contents), (0,) * blocks)
            with raises(self, OtherDisk, "disk", drive.disk):
                Store(drive, layout)
            self.assertEqual((drive.pending(), drive.settled()), ([], (0,) * blocks))

    def test_on_an_equal_disk(self):
        drive = Drive(Disk(6, 4), (1, 2, 3, 0, 1, 2))
        self.assertEqual(Store(layout=Layout(3, 1, 4), drive=drive).records(), (1, 0, 3))

    def test_works_on_this_very_drive(self):
        model = Model(1, 1, 2)
        drive, store = open_store(model, (0, 0, 0))
        store.begin([(0, 1)])
        store.step()
        self.assertEqual((drive.pending(), drive.settled()), ([(1, 1)], (0, 0, 0)))
        store.step()
        self.assertEqual((drive.pending(), drive.settled()), ([], (0, 1, 0)))
        store.cut((0, 1, 0))
        store.change([(0, 1)])
        self.assertEqual(drive.settled(), (0, 1, 1))


class Steps(unittest.TestCase):
    def check_steps(self, model, filling, wish, torn):
        """Go through a wish step by step, with what is told ahead of and behind each step."""
        drive, store = open_store(model, filling, torn)
        old, groups = model.read(filling), model.plan(filling, wish)
        new, pending, settled, told = model.grant(old, wish), [], filling, old
        self.assertIsNone(store.begin(wish))
        for step in steps_of(groups):
            self.assertEqual((store.under_way(), store.answered()), (wish, []))
            self.assertEqual(store.step(), step)
            if step[0] == "write":
                pending.append(step[1:])
                told = new if [step[1:]] == groups[3] else told
            elif step == ("sync",):
                settled, pending = model.behind(settled, pending), []
            self.assertEqual((drive.pending(), drive.settled()), (pending, settled))
            self.assertEqual(store.records(), told)
        self.assertEqual((store.under_way(), store.answered(), store.records()), (None, [wish], new))

    def test_of_every_wish_from_every_filling(self):
        for triple, torn in product(SMALL, (True, False)):
            model = Model(*triple)
            wishes = model.wishes() if len(model.wishes()) < 10 else model.wishes()[::3]
            for filling, wish in product(model.fillings(), wishes):
                self.check_steps(model, filling, wish, torn)

    def test_of_great_layouts(self):
        for records, changes, contents in [(8, 4, 2), (8, 8, 64), (7, 3, 5)]:
            model = Model(records, changes, contents)
            for mark in (0, contents // 2 - 1, contents // 2, contents - 1):
                filling = (1,) * model.mark + (mark,)
                for size in range(changes + 1):
                    wish = [(record, record % contents) for record in range(records - size, records)]
                    self.check_steps(model, filling, wish, True)

    def test_of_the_empty_wish(self):
        model = Model(2, 2, 2)
        for mark in (0, 1):
            drive, store = open_store(model, (1, 0, 0, 1, mark))
            for wish in ([], ()):
                store.begin(wish)
                self.assertEqual(store.under_way(), [])
                with raises_equal(self, Busy, "wish", []):
                    store.begin([])
                with raises_equal(self, Busy, "wish", []):
                    store.change([(0, 1)])
                self.assertEqual(store.step(), ("done",))
                self.assertIsNone(store.under_way())
            self.assertEqual(store.answered(), [[], []])
            self.assertEqual(drive.settled(), (1, 0, 0, 1, mark))

    def test_the_plan_goes_by_the_filling_at_begin(self):
        model = Model(2, 1, 2)
        for filling in model.fillings():
            drive, store = open_store(model, filling)
            store.change([(1, 1)])
            now = drive.filling()
            store.begin([(0, 1)])
            steps = [store.step() for _ in steps_of(model.plan(now, [(0, 1)]))]
            self.assertEqual(steps, steps_of(model.plan(now, [(0, 1)])))

    def test_behind_the_last_sync_it_is_still_under_way(self):
        drive, store = open_store(Model(1, 1, 2), (0, 0, 0))
        store.begin([(0, 1)])
        self.assertEqual([store.step() for _ in range(4)][-1], ("sync",))
        self.assertEqual((store.under_way(), store.answered(), drive.settled()), ([(0, 1)], [], (0, 1, 1)))
        with raises_equal(self, Busy, "wish", [(0, 1)]):
            store.begin([])
        self.assertEqual(store.step(), ("done",))
        self.assertEqual((store.under_way(), store.answered()), (None, [[(0, 1)]]))

    def test_no_wish(self):
        model = Model(1, 1, 2)
        drive, store = open_store(model, (0, 0, 1))
        for act in (lambda: None, lambda: store.change([(0, 1)]), lambda: store.cut(drive.filling())):
            act()
            before = state_of(drive, store)
            with self.assertRaises(NoWish):
                store.step()
            self.assertEqual(state_of(drive, store), before)

    def test_what_begin_raises(self):
        model = Model(3, 1, 4)
        for act, busy in product(("begin", "change"), (False, True)):
            drive, store = open_store(model, (1, 2, 3, 0, 1, 2))
            if busy:
                store.begin([(1, 3)])
                store.step()
            before = state_of(drive, store)
            for wish in NO_WISHES:
                with self.subTest(wish), raises(self, InvalidWish, "given", wish):
                    getattr(store, act)(wish)
            if busy:
                for wish in ([], [(2, 1)], ((2, 1),)):
                    with raises_equal(self, Busy, "wish", [(1, 3)]):
                        getattr(store, act)(wish)
            self.assertEqual(state_of(drive, store), before)
            if busy:
                self.assertEqual(store.step(), ("sync",))

    def test_by_name(self):
        _, store = open_store(Model(1, 1, 2), (0, 0, 0))
        self.assertEqual(store.change(wish=[(0, 1)]), 2)
        self.assertIsNone(store.begin(wish=[(0, 0)]))
        self.assertIsNone(store.cut(filling=(0, 1, 1)))


class Changes(unittest.TestCase):
    def test_the_number_of_writes(self):
        for triple, torn in product(SMALL, (True, False)):
            model = Model(*triple)
            most = 2 * model.changes + model.places + 2
            for filling, wish in product(model.fillings(), model.wishes()[::2]):
                drive, store = open_store(model, filling, torn)
                writes = store.change(tuple(wish))
                self.assertIs(type(writes), int)
                self.assertEqual(writes, sum(len(group) for group in model.plan(filling, wish)))
                self.assertLessEqual(writes, most)
                told = (model.grant(model.read(filling), wish), [wish], None)
                self.assertEqual(state_of(drive, store)[:4], told + ([],))

    def test_answered_in_order(self):
        _, store = open_store(Model(3, 2, 4), (0,) * 7)
        wishes = [[(0, 1)], [(1, 2), (2, 3)], [], [(0, 1)], [(0, 0), (2, 2)], []]
        for at, wish in enumerate(wishes):
            store.change(wish)
            self.assertEqual(store.answered(), wishes[:at + 1])
        self.assertEqual(store.records(), (0, 2, 2))

    def test_two_stores_know_nothing_of_one_another(self):
        model = Model(1, 1, 2)
        (_, one), (_, other) = open_store(model, (0, 0, 0)), open_store(model, (0, 0, 0))
        one.change([(0, 1)])
        one.begin([(0, 0)])
        self.assertEqual((other.records(), other.answered(), other.under_way()), ((0,), [], None))


class Cuts(unittest.TestCase):
    def test_behind_each_step(self):
        for triple, torn in product([(1, 1, 2), (2, 1, 2), (2, 2, 2), (1, 1, 3)], (True, False)):
            model = Model(*triple)
            for filling, wish in product(model.fillings(), model.wishes()):
                for many in range(len(steps_of(model.plan(filling, wish)))):
                    self.check_cuts(model, filling, wish, many, torn)

    def check_cuts(self, model, filling, wish, many, torn):
        """Do so many steps of a wish, and then cut in each way."""
        def worked():
            drive, store = open_store(model, filling, torn)
            store.begin(wish)
            for _ in range(many):
                store.step()
            return drive, store
        old = model.read(filling)
        drive, _ = worked()
        lefts = drive.left()
        self.assertEqual(lefts, model.left(drive.settled(), drive.pending(), torn))
        for left in lefts:
            drive, store = worked()
            self.assertIsNone(store.cut(left))
            told = (model.read(left), [], None)
            self.assertEqual(state_of(drive, store), told + ([], left, left, [left]))
            self.assertIn(store.records(), (old, model.grant(old, wish)))
            self.assertEqual(Store(Drive(model.disk, drive.settled()), model.layout).records(), store.records())

    def test_of_what_is_no_filling_give_nothing_up(self):
        model = Model(3, 1, 4)
        for busy in (False, True):
            drive, store = open_store(model, (1, 2, 3, 0, 1, 2))
            if busy:
                store.begin([(2, 1)])
                store.step()
            before = state_of(drive, store)
            wrong = [[1, 2, 3, 0, 1, 2], (1, 2, 3, 0, 1), (1, 2, 3, 0, 1, 4), (True, 2, 3, 0, 1, 2)]
            for value in wrong + no_fillings():
                with self.subTest(value), raises(self, InvalidFilling, "given", value):
                    store.cut(value)
            self.assertEqual(state_of(drive, store), before)
            if busy:
                self.assertEqual(store.step(), ("sync",))

    def test_of_what_cannot_be_left_give_nothing_up(self):
        for torn in (True, False):
            model = Model(1, 1, 3)
            for filling, many in product(model.fillings(), range(4)):
                drive, store = open_store(model, filling, torn)
                if many:
                    store.begin([(0, 1)])
                for _ in range(many - 1):
                    store.step()
                before = state_of(drive, store)
                for other in model.fillings():
                    if other not in before[-1]:
                        with raises(self, NotLeft, "filling", other):
                            store.cut(other)
                self.assertEqual(state_of(drive, store), before)

    def test_while_no_wish_is_under_way(self):
        drive, store = open_store(Model(1, 1, 2), (0, 0, 0))
        self.assertIsNone(store.cut((0, 0, 0)))
        store.change([(0, 1)])
        self.assertIsNone(store.cut((0, 1, 1)))
        with raises_equal(self, NotLeft, "filling", (0, 1, 0)):
            store.cut((0, 1, 0))
        self.assertEqual((store.records(), store.answered(), drive.settled()), ((1,), [[(0, 1)]], (0, 1, 1)))

    def test_ahead_of_the_first_step_and_behind_the_last_sync(self):
        drive, store = open_store(Model(1, 1, 2), (0, 0, 0))
        store.begin([(0, 1)])
        store.cut((0, 0, 0))
        self.assertEqual((store.records(), store.under_way(), store.answered()), ((0,), None, []))
        store.begin([(0, 1)])
        for _ in range(4):
            store.step()
        store.cut(drive.settled())
        self.assertEqual((store.records(), store.under_way(), store.answered()), ((1,), None, []))

    def test_the_next_wish_may_begin_at_once(self):
        model = Model(2, 1, 2)
        drive, store = open_store(model, (0, 0, 1, 1, 1))
        store.begin([(0, 1)])
        store.step()
        store.cut((0, 0, 1, 1, 1))
        store.begin([(0, 0)])
        steps = steps_of(model.plan((0, 0, 1, 1, 1), [(0, 0)]))
        self.assertEqual([store.step() for _ in steps], steps)
        self.assertEqual((store.answered(), store.records()), ([[(0, 0)]], (0, 1)))


class WhatIsRead(unittest.TestCase):
    def run_of(self, model, seed, torn):
        """Go through wishes, steps and cuts; what is read is told by the wishes alone, but behind a cut in one."""
        numbers = fixed_numbers(seed)
        wishes, filling = model.wishes(), tuple(next(numbers) % model.contents for _ in range(model.blocks))
        drive, store = open_store(model, filling, torn)
        told, answered = store.records(), []
        self.assertEqual(told, model.read(filling))
        for _ in range(120):
            wish = wishes[next(numbers) % len(wishes)]
            steps = steps_of(model.plan(drive.filling(), wish))
            new, last = model.grant(told, wish), len(steps) - 3
            store.begin(wish)
            many = next(numbers) % (len(steps) * 2)
            for at, step in enumerate(steps[:many]):
                self.assertEqual(store.step(), step)
                self.assertEqual(store.records(), told if not wish or at < last else new)
            if many >= len(steps):
                answered.append(wish)
                told = new
            else:
                lefts = drive.left()
                store.cut(lefts[next(numbers) % len(lefts)])
                self.assertIn(store.records(), (told, new))
                told = store.records()
            if next(numbers) % 3 == 0:
                store.cut(drive.settled())
            if next(numbers) % 8 == 0:
                drive = Drive(model.disk, drive.settled(), torn=torn)
                store, answered = Store(drive, model.layout), []
            self.assertEqual((store.records(), store.answered(), store.under_way()), (told, answered, None))

    def test_of_cuts_behind_cuts(self):
        triples = [*SMALL, (4, 2, 3), (3, 1, 4), (5, 3, 2), (8, 2, 2), (1, 1, 64)]
        for seed, (triple, torn) in enumerate(product(triples, (True, False))):
            self.run_of(Model(*triple), seed, torn)

    def test_later_cuts_do_not_change_what_a_cut_left(self):
        model = Model(1, 1, 2)
        for last in (0, 1):
            drive, store = open_store(model, (0, 0, 0))
            store.begin([(0, 1)])
            for _ in range(3):
                store.step()
            store.cut((0, 1, last))
            for _ in range(3):
                store.cut(drive.settled())
                self.assertEqual(store.records(), (last,))


class Lists(unittest.TestCase):
    def test_a_wish_that_is_passed_may_grow(self):
        model = Model(2, 2, 2)
        drive, store = open_store(model, (0, 0, 0, 0, 0))
        wish = [(0, 1)]
        store.begin(wish)
        wish.append((1, 1))
        self.assertEqual(store.under_way(), [(0, 1)])
        wish.clear()
        steps = steps_of(model.plan((0, 0, 0, 0, 0), [(0, 1)]))
        self.assertEqual([store.step() for _ in steps], steps)
        self.assertEqual((store.answered(), store.records()), ([[(0, 1)]], (1, 0)))
        other = [(1, 1)]
        store.change(other)
        other.clear()
        self.assertEqual(store.answered(), [[(0, 1)], [(1, 1)]])

    def test_what_is_returned_may_be_changed(self):
        _, store = open_store(Model(2, 2, 2), (0, 0, 0, 0, 0))
        store.change([(0, 1)])
        store.change([(0, 1)])
        store.begin([(1, 1)])
        answered = store.answered()
        self.assertIsNot(answered[0], answered[1])
        for wish in answered:
            wish.clear()
        answered.clear()
        store.under_way().clear()
        with self.assertRaises(Busy) as caught:
            store.begin([])
        caught.exception.wish.clear()
        self.assertEqual((store.answered(), store.under_way()), ([[(0, 1)], [(0, 1)]], [(1, 1)]))
        with raises_equal(self, Busy, "wish", [(1, 1)]):
            store.begin([])
        while store.under_way() is not None:
            store.step()
        self.assertEqual(store.answered(), [[(0, 1)], [(0, 1)], [(1, 1)]])

    def test_wishes_as_tuples_are_told_as_lists(self):
        _, store = open_store(Model(2, 2, 2), (0, 0, 0, 0, 0))
        store.change(((0, 1), (1, 1)))
        store.begin(((1, 0),))
        self.assertEqual((store.answered(), store.under_way()), ([[(0, 1), (1, 1)]], [(1, 0)]))
        self.assertEqual(store.records(), read(Layout(2, 2, 2), (0, 0, 1, 1, 1)))
