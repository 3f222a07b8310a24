"""Points 91 to 94, and what points 4, 5, 8, 9 and 10 say of the examiner."""

import unittest
from itertools import product

from leastspare.disks import Disk
from leastspare.errors import InvalidFilling, InvalidGroups, InvalidWish
from leastspare.examiner import examine, first_other, is_done_by, left_by
from leastspare.layouts import Layout
from leastspare.plans import plan, read
from tests.model import Model, moments
from tests.support import NO_INTEGERS, all_fillings, fixed_numbers, no_fillings, no_lists, raises, raises_too_many

# For a disk of three blocks with three contents, from (1, 0, 2): no groups, empty ones, blocks written several
# times, contents that stand, and blocks written again in later groups.
FILLING = (1, 0, 2)
GROUPS = [
    [], [[]], [[], [], []], [[(0, 2)]], [[(0, 1)]], [[(0, 2), (1, 1)]], [[(0, 2)], [(1, 1)]], [[], [(2, 2)], []],
    [[(0, 0), (0, 2)]], [[(0, 0)], [(0, 2)]], [[(0, 0), (0, 2), (0, 1)]], [[(1, 0), (1, 1)], [(1, 2)], [(1, 0)]],
    [[(0, 1), (1, 0), (2, 2)]], [[(0, 2), (1, 1), (0, 0)], [], [(2, 0), (2, 1)]], [[(2, 1)] * 24], [[(0, 0)]] * 8,
    [[(at % 3, at % 2) for at in range(24)]] * 8, [[(0, 2), (1, 2)], [(1, 1), (2, 0)], [(2, 1), (0, 0)], [(1, 0)]],
]

# Not one of these is a row of groups of a disk of three blocks with three contents.
NO_GROUPS = no_lists() + [
    [[]] * 9, [[(0, 1)]] * 9, [[(0, 1)] * 25], [[], [(0, 1)] * 25], [(0, 1)], (0, 1), [[(3, 0)]], [[(0, 3)]],
    [[(-1, 0)]], [[(0, -1)]], [[[0, 1]]], [[(0,)]], [[()]], [[(0, 1, 2)]], [[(0, 1), [1, 1]]], [[(0, 1)], None],
    [None], [0], ["01"], [{}], [[{}]], [[None]], [[((0, 1),)]], [[[(0, 1)]]], [[(0, 1)], [(0, 1), (10 ** 60, 0)]],
    *[[[(value, 0)]] for value in NO_INTEGERS], *[[[(0, value)]] for value in NO_INTEGERS],
]


class Examples(unittest.TestCase):
    def test_of_the_interface(self):
        found = left_by(Disk(2, 3), (0, 0), [[(0, 1)], [(1, 2)]], torn=False)
        self.assertEqual(found, [(0, 0), (1, 0), (1, 2)])
        found = left_by(Disk(2, 3), (0, 0), [[(0, 1)], [(1, 2)]])
        self.assertEqual(found, [(0, 0), (1, 0), (1, 1), (1, 2), (2, 0)])
        found = left_by(Disk(1, 6), (0,), [[(0, 1), (0, 3)], [], [(0, 2)]], torn=False)
        self.assertEqual(found, [(0,), (1,), (2,), (3,)])
        layout = Layout(1, 1, 2)
        told = [examine(layout, (0, 0, 0), [(0, 1)])]
        told.append(is_done_by(layout, (0, 0, 0), [(0, 1)], [[(1, 1)], [(2, 1)]]))
        self.assertEqual(told, [(2, 1, 0), True])
        found = first_other(Layout(2, 2, 2), (0, 0, 0, 0, 0), [(0, 1), (1, 1)], [[(0, 1), (1, 1)]])
        self.assertEqual(found, (0, 1, 0, 0, 0))
        with raises_too_many(self, 262145):
            left_by(Disk(3, 64), (0, 0, 0), [[], [(0, 1), (1, 1), (2, 1)]])


class LeftBy(unittest.TestCase):
    def test_against_a_listing(self):
        disk = Disk(3, 3)
        for groups, torn in product(GROUPS, (True, False)):
            for filling in all_fillings(disk):
                with self.subTest(groups=groups, torn=torn):
                    found = left_by(disk, filling, groups, torn=torn)
                    self.assertEqual(found, moments(disk, filling, groups, torn))

    def test_of_rows_that_look_random(self):
        numbers = fixed_numbers(91)
        for blocks, contents in [(1, 6), (2, 4), (3, 3), (5, 2), (4, 4)] * 20:
            disk = Disk(blocks, contents)
            filling = tuple(next(numbers) % contents for _ in range(blocks))
            groups = [[(next(numbers) % blocks, next(numbers) % contents) for _ in range(next(numbers) % 5)]
                      for _ in range(next(numbers) % 5)]
            for torn in (True, False):
                self.assertEqual(left_by(disk, filling, groups, torn=torn), moments(disk, filling, groups, torn))

    def test_torn_left_out(self):
        for groups in GROUPS:
            self.assertEqual(left_by(Disk(3, 3), FILLING, groups), left_by(Disk(3, 3), FILLING, groups, torn=True))
        self.assertEqual(left_by(Disk(3, 3), FILLING, [[(0, 2)]]), [(0, 0, 2), (1, 0, 2), (2, 0, 2)])
        self.assertEqual(left_by(Disk(3, 3), FILLING, [[(0, 2)]], torn=False), [(1, 0, 2), (2, 0, 2)])

    def test_torn_is_passed_by_name_alone(self):
        with self.assertRaises(TypeError):
            left_by(Disk(3, 3), FILLING, [], True)
        self.assertEqual(left_by(torn=False, groups=[], filling=FILLING, disk=Disk(3, 3)), [FILLING])

    def test_lists_and_tuples(self):
        for groups in GROUPS:
            other = tuple(tuple(group) for group in groups)
            self.assertEqual(left_by(Disk(3, 3), FILLING, other), left_by(Disk(3, 3), FILLING, groups))
            self.assertEqual(left_by(Disk(3, 3), FILLING, list(other)), left_by(Disk(3, 3), FILLING, groups))

    def test_of_plans(self):
        for triple in [(1, 1, 2), (2, 1, 2), (2, 2, 2)]:
            model = Model(*triple)
            for filling, wish, torn in product(model.fillings(), model.wishes(), (True, False)):
                groups = plan(model.layout, filling, wish)
                found = left_by(model.disk, filling, groups, torn=torn)
                self.assertEqual(found, moments(model.disk, filling, groups, torn))

    def test_nothing_that_is_passed_or_returned_is_kept(self):
        groups = [[(0, 2)], [(1, 1)]]
        found = left_by(Disk(3, 3), FILLING, groups)
        found.clear()
        self.assertEqual(groups, [[(0, 2)], [(1, 1)]])
        self.assertEqual(len(left_by(Disk(3, 3), FILLING, groups)), 5)
        groups[1].append((2, 0))
        self.assertEqual(len(left_by(Disk(3, 3), FILLING, groups)), 11)


class Limits(unittest.TestCase):
    def test_eight_groups_and_24_writes_are_let(self):
        for groups in ([[]] * 8, [[(0, 1)]] * 8, [[(0, 1)] * 24] * 8):
            left = [FILLING] if not groups[0] else [(0, 0, 2), (1, 0, 2), (2, 0, 2)]
            self.assertEqual(left_by(Disk(3, 3), FILLING, groups), left)
        for groups in ([[]] * 9, [[(0, 1)] * 25], [[(0, 1)] * 24] * 7 + [[(0, 1)] * 25]):
            with raises(self, InvalidGroups, "given", groups):
                left_by(Disk(3, 3), FILLING, groups)

    def test_torn_writes_at_the_limit(self):
        # Two groups that may leave 10000 fillings each, of which 10 are left by both.
        disk, filling = Disk(7, 10), (0,) * 7
        groups = [[(block, 1) for block in range(4)], [(block, 1) for block in range(3, 7)]]
        found = left_by(disk, filling, groups)
        self.assertEqual(found, moments(disk, filling, groups, True))
        self.assertEqual(len(found), 20000 - 10)
        with raises_too_many(self, 20001):
            left_by(disk, filling, groups + [[]])
        with raises_too_many(self, 20010):
            left_by(disk, filling, groups + [[(0, 1)]])
        # Whole, the same groups may leave 16 and 16.
        found = left_by(disk, filling, groups + [[]], torn=False)
        self.assertEqual(found, moments(disk, filling, groups, False))

    def test_whole_writes_at_the_limit(self):
        # 5 * 5 * 5 * 5 * 2 * 2 * 2 * 2 * 2 is 20000.
        disk, filling = Disk(9, 5), (0,) * 9
        group = [(block, content) for block in range(4) for content in range(1, 5)]
        group += [(block, 3) for block in range(4, 9)]
        found = left_by(disk, filling, [group], torn=False)
        self.assertEqual(found, list(product(*[range(5)] * 4, *[(0, 3)] * 5)))
        with raises_too_many(self, 20001):
            left_by(disk, filling, [group, []], torn=False)
        with raises_too_many(self, 20001):
            left_by(disk, filling, [[], group], torn=False)
        with raises_too_many(self, 5 ** 9):
            left_by(disk, filling, [group])

    def test_just_below(self):
        # The sum is 19683 + 6 * 27 + 1.
        disk, filling = Disk(4, 27), (26, 0, 0, 13)
        groups = [[(0, 1), (1, 1), (2, 1)], [(3, 5)], [(0, 2)], [(0, 3)], [], [(1, 1)], [(2, 9)], [(3, 0)]]
        found = left_by(disk, filling, groups)
        self.assertEqual(found, moments(disk, filling, groups, True))
        with raises_too_many(self, 19683 + 729):
            left_by(disk, filling, [groups[0], [(0, 2), (1, 2)]])

    def test_a_sum_counts_what_is_left_twice(self):
        groups = [[(0, 1), (1, 1), (2, 1)]] * 2
        with raises_too_many(self, 2 * 19683):
            left_by(Disk(3, 27), (0, 0, 0), groups)

    def test_on_great_disks(self):
        disk, filling = Disk(24, 64), tuple(range(24))
        with raises_too_many(self, 64 ** 24):
            left_by(disk, filling, [[(block, 0) for block in range(24)]])
        with raises_too_many(self, 2 ** 23):
            left_by(disk, filling, [[(block, 0) for block in range(24)]], torn=False)
        self.assertEqual(left_by(disk, filling, []), [filling])
        self.assertEqual(len(left_by(disk, filling, [[(0, 1), (23, 1)], [(5, 5)]])), 4096 + 63)


class LeftByErrors(unittest.TestCase):
    def test_in_order(self):
        disk = Disk(3, 3)
        for value in no_fillings() + [(1, 0), (1, 0, 3), [1, 0, 2], (1, False, 2)]:
            for groups in ([], [[(0, 1)]], [[(3, 1)]], None):
                with self.subTest(value), raises(self, InvalidFilling, "given", value):
                    left_by(disk, value, groups)
        for groups in NO_GROUPS:
            with self.subTest(groups), raises(self, InvalidGroups, "given", groups):
                left_by(disk, FILLING, groups)

    def test_groups_are_judged_ahead_of_their_number(self):
        disk, filling = Disk(4, 64), (0,) * 4
        many = [[(block, 1) for block in range(4)]]
        for groups in (many + [[(4, 0)]], many * 9, many + [None]):
            with raises(self, InvalidGroups, "given", groups):
                left_by(disk, filling, groups)


def tally(model, filling, wish, lefts):
    """How many read as before, how many as wished, and how many otherwise."""
    old = model.read(filling)
    new = model.grant(old, wish)
    told = [model.read(left) for left in lefts]
    as_old = told.count(old)
    as_new = told.count(new) if new != old else 0
    return as_old, as_new, len(told) - as_old - as_new


class Examine(unittest.TestCase):
    def test_every_filling_and_wish(self):
        for triple in [(1, 1, 2), (2, 1, 2), (2, 2, 2), (1, 1, 3), (3, 1, 2)]:
            model = Model(*triple)
            for filling, wish, torn in product(model.fillings(), model.wishes(), (True, False)):
                lefts = moments(model.disk, filling, model.plan(filling, wish), torn)
                told = examine(model.layout, filling, wish, torn=torn)
                self.assertEqual(told, tally(model, filling, wish, lefts))
                self.assertEqual((type(told), told[2], sum(told)), (tuple, 0, len(lefts)))

    def test_some_of_greater_layouts(self):
        for seed, triple in enumerate([(2, 2, 3), (3, 2, 2), (2, 1, 5), (4, 2, 2), (3, 1, 4)]):
            model, numbers = Model(*triple), fixed_numbers(seed)
            wishes = model.wishes()
            for _ in range(30):
                filling = tuple(next(numbers) % model.contents for _ in range(model.blocks))
                wish = wishes[next(numbers) % len(wishes)]
                for torn in (True, False):
                    lefts = moments(model.disk, filling, model.plan(filling, wish), torn)
                    found = examine(model.layout, filling, tuple(wish), torn=torn)
                    self.assertEqual(found, tally(model, filling, wish, lefts))

    def test_the_empty_wish(self):
        for mark in (0, 1):
            self.assertEqual(examine(Layout(2, 2, 2), (0, 1, 1, 0, mark), []), (1, 0, 0))

    def test_a_wish_that_changes_nothing(self):
        # All that is left reads as before; none counts as wished.
        old, new, other = examine(Layout(1, 1, 2), (0, 0, 0), [(0, 0)])
        self.assertEqual((old, new, other), (3, 0, 0))

    def test_torn_left_out(self):
        layout, filling, wish = Layout(1, 1, 4), (0, 2, 0), [(0, 1)]
        self.assertEqual(examine(layout, filling, wish), examine(layout, filling, wish, torn=True))
        self.assertEqual(examine(layout, filling, wish), (5, 2, 0))
        self.assertEqual(examine(wish=wish, torn=False, filling=filling, layout=layout), (2, 1, 0))
        with self.assertRaises(TypeError):
            examine(layout, filling, wish, True)

    def test_errors_in_order(self):
        great, filling = Layout(3, 3, 64), (0,) * 7
        for value in no_fillings() + [(0,) * 6, (0,) * 8, [0] * 7]:
            for wish in ([], [(3, 0)], None):
                with self.subTest(value), raises(self, InvalidFilling, "given", value):
                    examine(great, value, wish)
        for wish in no_lists() + [[(3, 0)], [(0, 64)], [(1, 0), (0, 0)], [[0, 0]], (0, 0), [(True, 0)]]:
            with self.subTest(wish), raises(self, InvalidWish, "given", wish):
                examine(great, filling, wish)
        # An empty group counts for 1.
        with raises_too_many(self, 64 ** 3 + 64 + 2):
            examine(great, filling, [(0, 1)])
        with raises_too_many(self, 64 ** 3 + 64 + 64 ** 3 + 64):
            examine(great, (0,) * 6 + (63,), [(0, 1)])
        self.assertEqual(examine(great, filling, [(0, 1)], torn=False), (2, 1, 0))
        self.assertEqual(examine(great, filling, []), (1, 0, 0))


def variants(groups):
    """The groups, with a write left out, changed or moved, and with groups joined or turned."""
    found = [groups, groups[::-1], [[write for group in groups for write in group]], []]
    for at, group in enumerate(groups):
        def with_group(*other):
            return groups[:at] + list(other) + groups[at + 1:]
        found.append(with_group())
        found.append(with_group(group[::-1]))
        found.append(groups[:at] + [group + (groups[at + 1:at + 2] or [[]])[0]] + groups[at + 2:])
        for place, (block, content) in enumerate(group):
            found.append(with_group(group[:place] + group[place + 1:]))
            found.append(with_group(group[:place] + [(block, 1 - content)] + group[place + 1:]))
            found.append(with_group(group[:place] + [((block + 1) % 3, content)] + group[place + 1:]))
            for other in range(len(groups)):
                moved = [list(row) for row in groups]
                moved[at].pop(place)
                moved[other].append((block, content))
                found.append(moved)
    return found


class Handed(unittest.TestCase):
    def check(self, model, filling, wish, groups, torn):
        lefts = moments(model.disk, filling, groups, torn)
        old = model.read(filling)
        new = model.grant(old, wish)
        others = [left for left in lefts if model.read(left) not in (old, new)]
        first = others[0] if others else None
        self.assertEqual(first_other(model.layout, filling, wish, groups, torn=torn), first)
        last = filling
        for group in groups:
            last = model.behind(last, group)
        done = not others and model.read(last) == new
        self.assertIs(is_done_by(model.layout, filling, wish, groups, torn=torn), done)
        return first, done

    def test_plans_do_it(self):
        for triple in [(1, 1, 2), (2, 1, 2), (2, 2, 2), (1, 1, 3)]:
            model = Model(*triple)
            for filling, wish, torn in product(model.fillings(), model.wishes(), (True, False)):
                groups = plan(model.layout, filling, wish)
                self.assertIsNone(first_other(model.layout, filling, wish, groups, torn=torn))
                self.assertIs(is_done_by(model.layout, filling, wish, groups, torn=torn), True)

    def test_plans_with_something_changed(self):
        for triple in [(1, 1, 2), (2, 1, 2), (2, 2, 2)]:
            model, found = Model(*triple), set()
            for filling in list(model.fillings())[::3]:
                for wish in model.wishes()[::2]:
                    for groups in variants(model.plan(filling, wish)):
                        for torn in (True, False):
                            first, done = self.check(model, filling, wish, groups, torn)
                            found.add((first is None, done))
            self.assertEqual(found, {(True, True), (True, False), (False, False)})

    def test_groups_that_look_random(self):
        numbers = fixed_numbers(93)
        for triple in [(1, 1, 2), (2, 1, 2), (2, 2, 2), (1, 1, 3)]:
            model = Model(*triple)
            wishes = model.wishes()
            for _ in range(60):
                filling = tuple(next(numbers) % model.contents for _ in range(model.blocks))
                groups = [[(next(numbers) % model.blocks, next(numbers) % model.contents)
                           for _ in range(next(numbers) % 3)] for _ in range(next(numbers) % 4)]
                for wish, torn in product(wishes, (True, False)):
                    self.check(model, filling, wish, groups, torn)

    def test_without_groups(self):
        layout, filling = Layout(1, 1, 2), (0, 1, 0)
        for wish, done in [([], True), ([(0, 0)], True), ([(0, 1)], False)]:
            for groups in ([], [[]], [[], []], ()):
                self.assertIsNone(first_other(layout, filling, wish, groups))
                self.assertIs(is_done_by(layout, filling, wish, groups), done)

    def test_torn_and_whole_differ(self):
        # Whole, the record's own block goes from 0 to 1 alone; torn, it may be left with 2.
        layout, filling, wish, groups = Layout(1, 1, 3), (0, 0, 0), [(0, 1)], [[(0, 1)]]
        self.assertEqual(first_other(layout, filling, wish, groups), (2, 0, 0))
        self.assertEqual(first_other(layout, filling, wish, groups, torn=True), (2, 0, 0))
        self.assertIsNone(first_other(layout, filling, wish, groups, torn=False))
        self.assertIs(is_done_by(layout, filling, wish, groups), False)
        self.assertIs(is_done_by(layout, filling, wish, groups, torn=True), False)
        self.assertIs(is_done_by(layout, filling, wish, groups, torn=False), True)

    def test_by_name(self):
        given = {"groups": (((0, 1),),), "wish": ((0, 1),), "filling": (0, 0, 0), "layout": Layout(1, 1, 3)}
        self.assertEqual((first_other(torn=True, **given), is_done_by(torn=False, **given)), ((2, 0, 0), True))
        for call in (first_other, is_done_by):
            with self.assertRaises(TypeError):
                call(*[given[name] for name in ("layout", "filling", "wish", "groups")], True)

    def test_the_lists_passed_stay(self):
        wish, groups = [(0, 1)], [[(1, 1)], [(2, 1)]]
        first_other(Layout(1, 1, 2), (0, 0, 0), wish, groups)
        self.assertIs(is_done_by(Layout(1, 1, 2), (0, 0, 0), wish, groups), True)
        self.assertEqual((wish, groups), ([(0, 1)], [[(1, 1)], [(2, 1)]]))

    def test_errors_in_order(self):
        layout, filling = Layout(2, 2, 64), (0,) * 5
        many = [[(block, 1) for block in range(5)]]
        no_wishes = no_lists() + [[(2, 0)], [(0, 64)], [(1, 0), (0, 0)], [[0, 0]], (0, 0), [(True, 0)]]
        no_groups = [None, many * 9, many + [[(5, 0)]], [[(0, 64)]], [[[0, 1]]], [(0, 1)], [[(0, True)]]]
        for call in (first_other, is_done_by):
            for value in no_fillings() + [(0,) * 4, (0,) * 6, [0] * 5, (0, 0, 64, 0, 0)]:
                for wish, groups in [([], []), ([(2, 0)], []), ([], None), (None, None), ([], many)]:
                    with self.subTest(value), raises(self, InvalidFilling, "given", value):
                        call(layout, value, wish, groups)
            for wish in no_wishes:
                for groups in ([], None, many):
                    with self.subTest(wish), raises(self, InvalidWish, "given", wish):
                        call(layout, filling, wish, groups)
            for groups in no_groups:
                with self.subTest(groups), raises(self, InvalidGroups, "given", groups):
                    call(layout, filling, [(0, 1)], groups)
            with raises_too_many(self, 64 ** 5):
                call(layout, filling, [(0, 1)], many)
            with raises_too_many(self, 64 ** 5 + 1):
                call(layout, filling, [(0, 1)], many + [[]])
        self.assertIsNotNone(first_other(layout, filling, [(0, 1)], many, torn=False))

    def test_of_no_rows_of_groups(self):
        # All of these are none for three blocks with two contents, too.
        for groups in NO_GROUPS:
            for call in (first_other, is_done_by):
                with self.subTest(groups), raises(self, InvalidGroups, "given", groups):
                    call(Layout(1, 1, 2), (0, 0, 0), [], groups)


class CutsBehindCuts(unittest.TestCase):
    def test_of_two_wishes(self):
        for triple in [(1, 1, 2), (2, 1, 2), (1, 1, 3)]:
            model = Model(*triple)
            for filling, wish in product(list(model.fillings())[::5], model.wishes()):
                allowed = (model.read(filling), model.grant(model.read(filling), wish))
                for left in left_by(model.disk, filling, plan(model.layout, filling, wish)):
                    self.assertIn(read(model.layout, left), allowed)
                    for other in model.wishes():
                        self.assertEqual(examine(model.layout, left, other)[2], 0)

    def test_of_many_wishes(self):
        for seed, triple in enumerate([(2, 2, 2), (3, 2, 2), (2, 1, 4)]):
            model, numbers = Model(*triple), fixed_numbers(seed)
            wishes, filling = model.wishes(), (1,) * model.blocks
            for _ in range(60):
                wish, told = wishes[next(numbers) % len(wishes)], read(model.layout, filling)
                self.assertEqual(examine(model.layout, filling, wish)[2], 0)
                lefts = left_by(model.disk, filling, plan(model.layout, filling, wish))
                filling = lefts[next(numbers) % len(lefts)]
                self.assertIn(read(model.layout, filling), (told, model.grant(told, wish)))
