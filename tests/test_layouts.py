"""Points 41 to 44, and what points 2, 3, 5, 8, 9 and 10 say of layouts, records and wishes."""

import unittest
from itertools import combinations, product

from leastspare.disks import Disk
from leastspare.errors import InvalidChanges, InvalidContents, InvalidRecords, InvalidTold, InvalidWish, TooFar
from leastspare.layouts import Layout, all_wishes, disk_of, distance, granted, is_told, is_wish, roles, wish_between
from tests.model import Model
from tests.support import NO_INTEGERS, no_fillings, no_lists, raises, raises_equal, raises_too_many

SMALL = [(1, 1, 2), (1, 1, 5), (2, 1, 2), (2, 2, 2), (2, 1, 3), (3, 1, 2), (3, 2, 2), (3, 3, 2), (3, 2, 3), (4, 2, 2)]

# Not one of these is a wish of Layout(4, 2, 3).
NO_WISHES = no_lists() + [
    [(0, 1), (0, 1)], [(0, 1), (0, 2)], [(3, 0), (1, 2)], [(0, 0), (1, 0), (2, 0)], [(0, 0), (1, 0), (2, 0), (3, 0)],
    [(4, 0)], [(-1, 0)], [(0, 3)], [(0, -1)], [(10 ** 60, 0)], [(0, 10 ** 60)], [(1, 0), (4, 0)], [(0, 0), (1, 3)],
    [(0,)], [()], [(0, 1, 2)], [((0, 1),)], [[(0, 1)]], [[0, 1]], [[0, 1], [1, 0]], [(0, 1), [1, 0]], (0, 1), [0, 1],
    ([0, 1],), [None], [True], [0], ["01"], [{}], [{"a": 1}], [Disk(2, 2)], [(0, 1), None], [None, (0, 1)], [[]],
    [("0", 1)], [([0], 1)], [(0, [1])], [((0,), (1,))], [[[[[[[[]]]]]]]], ((((((((),),),),),),),),
    *[[(value, 0)] for value in NO_INTEGERS], *[[(0, value)] for value in NO_INTEGERS],
]


class Examples(unittest.TestCase):
    def test_of_the_interface(self):
        layout = Layout(4, 2, 3)
        told = [layout.places, layout.spare, disk_of(layout).blocks, roles(layout)]
        self.assertEqual(told, [2, 5, 9, ([0, 1, 2, 3], [4, 5], [6, 7], 8)])
        told = [is_told(layout, (0, 1, 2, 0)), is_told(layout, [0, 1, 2, 0])]
        self.assertEqual(told, [True, False])
        told = [is_wish(layout, [(1, 2), (3, 0)]), is_wish(layout, [(3, 0), (1, 2)])]
        self.assertEqual(told, [True, False])
        told = [granted(layout, (0, 1, 2, 0), [(1, 2), (3, 0)]), distance(layout, (0, 1, 2, 0), (0, 2, 2, 1))]
        self.assertEqual(told, [(0, 2, 2, 0), 2])
        told = [wish_between(layout, (0, 1, 2, 0), (0, 2, 2, 1)), Layout(2, 2, 5).places]
        self.assertEqual(told, [[(1, 2), (3, 1)], 0])
        told = [all_wishes(Layout(2, 1, 3), (0, 2)), all_wishes(Layout(2, 2, 2), (0, 1))]
        ones = [[(0, 1)], [(0, 2)], [(1, 0)], [(1, 1)]]
        self.assertEqual(told, [ones, [[(0, 1)], [(0, 1), (1, 0)], [(1, 0)]]])
        with raises_equal(self, TooFar, "count", 3):
            wish_between(layout, (0, 0, 0, 0), (1, 1, 1, 0))


class Layouts(unittest.TestCase):
    def test_all_within_the_bounds(self):
        for records in range(1, 9):
            for changes, contents in product(range(1, records + 1), range(2, 65)):
                layout = Layout(records, changes, contents)
                self.assertEqual((layout.records, layout.changes, layout.contents), (records, changes, contents))
                many = len(list(combinations(range(records), changes)))
                places = min(figures for figures in range(8) if contents ** figures >= many)
                self.assertEqual((layout.places, layout.spare), (places, changes + places + 1))
                disk = Disk(records + changes + places + 1, contents)
                self.assertEqual(disk_of(layout), disk)
                self.assertLessEqual(disk.blocks, 20)

    def test_places_where_a_power_is_just_the_number_of_lots_or_beside_it(self):
        just = [(4, 1, 2, 2), (4, 3, 2, 2), (8, 1, 2, 3), (8, 7, 2, 3), (6, 2, 15, 1), (6, 3, 20, 1), (8, 3, 56, 1)]
        one_less = [(3, 1, 2, 2), (5, 1, 2, 3), (5, 2, 3, 3), (8, 2, 3, 4), (6, 2, 14, 2), (6, 3, 19, 2)]
        one_more = [(6, 2, 2, 4), (6, 2, 4, 2), (7, 3, 6, 2), (7, 6, 2, 3), (8, 1, 3, 2), (6, 3, 21, 1)]
        none = [(1, 1, 2, 0), (1, 1, 64, 0), (2, 2, 2, 0), (5, 5, 9, 0), (8, 8, 2, 0), (8, 8, 64, 0)]
        for records, changes, contents, places in just + one_less + one_more + none:
            self.assertEqual(Layout(records, changes, contents).places, places)

    def test_the_greatest_disk(self):
        blocks = [disk_of(Layout(8, changes, 2)).blocks for changes in range(1, 9)]
        self.assertEqual(blocks, [13, 16, 18, 20, 20, 20, 19, 17])

    def test_one_beyond_the_bounds(self):
        for records in (0, 9, -1, 10 ** 60, -10 ** 59):
            with raises(self, InvalidRecords, "given", records):
                Layout(records, 1, 2)
        for records in range(1, 9):
            for changes in (0, records + 1, -1, 10 ** 60):
                with raises(self, InvalidChanges, "given", changes):
                    Layout(records, changes, 2)
        for contents in (1, 65, 0, -2, 10 ** 60):
            with raises(self, InvalidContents, "given", contents):
                Layout(3, 2, contents)

    def test_what_is_no_integer(self):
        for value in NO_INTEGERS + no_lists():
            if isinstance(value, int) and not isinstance(value, bool):
                continue
            with self.subTest(value):
                with raises(self, InvalidRecords, "given", value):
                    Layout(value, 1, 2)
                with raises(self, InvalidChanges, "given", value):
                    Layout(3, value, 2)
                with raises(self, InvalidContents, "given", value):
                    Layout(3, 2, value)

    def test_the_first_wrong_one_counts(self):
        for contents in (2, 1, 65, None, True):
            for changes in (1, 0, 10, False, "1", []):
                for records in (0, 9, True, None, [3]):
                    with raises(self, InvalidRecords, "given", records):
                        Layout(records, changes, contents)
            for changes in (0, 4, True, "1", [2]):
                with raises(self, InvalidChanges, "given", changes):
                    Layout(3, changes, contents)
                with raises(self, InvalidChanges, "given", changes):
                    Layout(contents=contents, changes=changes, records=3)

    def test_by_name(self):
        layout = Layout(contents=5, changes=2, records=4)
        self.assertEqual((layout.records, layout.changes, layout.contents), (4, 2, 5))
        self.assertEqual(disk_of(layout=layout), Disk(9, 5))
        self.assertEqual(roles(layout=layout), ([0, 1, 2, 3], [4, 5], [6, 7], 8))

    def test_equal_exactly_if_all_three_are(self):
        for one, other in product(SMALL, SMALL):
            self.assertIs(Layout(*one) == Layout(*other), one == other)
            self.assertIs(Layout(*one) != Layout(*other), one != other)
        self.assertIs(Layout(8, 1, 4) == Layout(8, 1, 5), False)

    def test_unequal_to_all_else(self):
        layout = Layout(2, 1, 3)
        for value in no_fillings() + [(2, 1, 3), [2, 1, 3], disk_of(layout), Disk(2, 3)]:
            self.assertIs(layout == value, False)
            self.assertIs(value == layout, False)
            self.assertIs(layout != value, True)


class Roles(unittest.TestCase):
    def test_of_all_layouts(self):
        for records in range(1, 9):
            for changes, contents in product(range(1, records + 1), (2, 3, 7, 8, 27, 56, 64)):
                layout = Layout(records, changes, contents)
                told = roles(layout)
                self.assertIs(type(told), tuple)
                self.assertEqual([type(role) for role in told], [list, list, list, int])
                own, news, places, mark = told
                self.assertEqual([len(own), len(news), len(places)], [records, changes, layout.places])
                self.assertEqual(own + news + places + [mark], list(range(disk_of(layout).blocks)))

    def test_the_lists_may_be_changed(self):
        layout = Layout(4, 2, 3)
        for role in roles(layout)[:3]:
            role.clear()
        self.assertEqual(roles(layout), ([0, 1, 2, 3], [4, 5], [6, 7], 8))
        empty = roles(Layout(2, 2, 2))
        self.assertEqual(empty, ([0, 1], [2, 3], [], 4))


class Told(unittest.TestCase):
    def test_each_listed_one_is_one(self):
        for triple in SMALL:
            model = Model(*triple)
            for told in model.tolds():
                self.assertIs(is_told(model.layout, told), True)
                self.assertIs(is_told(model.layout, list(told)), False)
        self.assertIs(is_told(value=(63,) * 8, layout=Layout(8, 1, 64)), True)

    def test_values_of_every_kind_are_none(self):
        for triple in SMALL + [(8, 8, 64)]:
            for value in no_fillings():
                with self.subTest(value):
                    self.assertIs(is_told(Layout(*triple), value), False)

    def test_wrong_ones(self):
        wrong = [(0, 1, 2), (0, 1, 2, 0, 0), (0, 1, 2, 3), (0, 1, 2, -1), (3, 0, 0, 0), (0, 1, True, 0), (), [0, 1, 2, 0]]
        wrong += [(0, None, 0, 0), ("0", 0, 0, 0), ((0,), 0, 0, 0), ([0], 0, 0, 0), (0, 1, 10 ** 60, 0), "0120", 0]
        for value in wrong:
            with self.subTest(value):
                self.assertIs(is_told(Layout(4, 2, 3), value), False)


class Wishes(unittest.TestCase):
    def test_each_listed_one_is_one(self):
        for triple in SMALL:
            model = Model(*triple)
            for wish in model.wishes():
                self.assertIs(is_wish(model.layout, wish), True)
                self.assertIs(is_wish(model.layout, tuple(wish)), True)
        self.assertIs(is_wish(value=[(7, 63)], layout=Layout(8, 1, 64)), True)

    def test_just_these_of_all_lists_of_items(self):
        for triple in [(1, 1, 2), (2, 1, 2), (2, 2, 2), (3, 2, 2)]:
            model = Model(*triple)
            items = list(product(range(-1, model.records + 1), range(-1, model.contents + 1)))
            wishes = model.wishes()
            for size in range(4 if model.records < 3 else 3):
                for wish in product(items, repeat=size):
                    self.assertIs(is_wish(model.layout, list(wish)), list(wish) in wishes)

    def test_the_empty_one(self):
        for triple in SMALL:
            self.assertIs(is_wish(Layout(*triple), []), True)
            self.assertIs(is_wish(Layout(*triple), ()), True)

    def test_wrong_ones(self):
        for value in NO_WISHES:
            with self.subTest(value):
                self.assertIs(is_wish(Layout(4, 2, 3), value), False)

    def test_as_many_as_may_change(self):
        wish = [(record, 1) for record in range(8)]
        for changes in range(1, 9):
            for size in range(9):
                self.assertIs(is_wish(Layout(8, changes, 2), wish[:size]), size <= changes)


class Granted(unittest.TestCase):
    def test_every_wish(self):
        for triple in SMALL:
            model = Model(*triple)
            wishes = model.wishes()
            for told in model.tolds():
                for wish in wishes:
                    behind = model.grant(told, wish)
                    self.assertEqual(granted(model.layout, told, wish), behind)
                    self.assertEqual(granted(model.layout, told, tuple(wish)), behind)
        self.assertEqual(granted(wish=[(0, 1)], told=(0, 0), layout=Layout(2, 1, 2)), (1, 0))

    def test_the_lists_passed_stay(self):
        wish = [(1, 2), (3, 0)]
        self.assertEqual(granted(Layout(4, 2, 3), (0, 1, 2, 0), wish), (0, 2, 2, 0))
        self.assertEqual(wish, [(1, 2), (3, 0)])

    def test_errors_in_order(self):
        layout = Layout(4, 2, 3)
        for wish in NO_WISHES:
            with self.subTest(wish), raises(self, InvalidWish, "given", wish):
                granted(layout, (0, 1, 2, 0), wish)
        for told in no_fillings() + [[0, 1, 2, 0], (0, 1, 2, 3), (0, 1, 2, True)]:
            for wish in ([(1, 2)], [(4, 0)], None):
                with self.subTest(told), raises(self, InvalidTold, "given", told):
                    granted(layout, told, wish)


class FromOneToAnother(unittest.TestCase):
    def test_every_pair(self):
        for triple in SMALL:
            model = Model(*triple)
            for one, other in product(model.tolds(), model.tolds()):
                wish = [(record, other[record]) for record in range(model.records) if one[record] != other[record]]
                self.assertEqual(distance(model.layout, one, other), len(wish))
                if len(wish) > model.changes:
                    with raises_equal(self, TooFar, "count", len(wish)):
                        wish_between(model.layout, one, other)
                else:
                    self.assertEqual(wish_between(model.layout, one, other), wish)
                    self.assertEqual(model.grant(one, wish), other)

    def test_as_many_as_may_change_and_one_more(self):
        layout = Layout(8, 3, 64)
        one, other = tuple(range(8)), (63, 1, 2, 62, 4, 5, 6, 61)
        self.assertEqual(wish_between(layout, one, other), [(0, 63), (3, 62), (7, 61)])
        self.assertEqual(wish_between(layout, one, one), [])
        with raises_equal(self, TooFar, "count", 4):
            wish_between(layout, one, (63, 1, 2, 62, 5, 5, 6, 61))
        with raises_equal(self, TooFar, "count", 8):
            wish_between(layout, one, (9,) * 8)

    def test_by_name(self):
        layout = Layout(2, 2, 3)
        self.assertEqual(distance(other=(0, 1), one=(0, 2), layout=layout), 1)
        self.assertEqual(wish_between(other=(0, 1), one=(0, 2), layout=layout), [(1, 1)])

    def test_errors_in_order(self):
        layout, right = Layout(3, 1, 3), (0, 0, 0)
        for wrong in [[0, 0, 0], (0, 0), (0, 0, 3), (0, 0, 0, 0), (0, False, 0), (0, -1, 0), None, "000", 0]:
            for call in (distance, wish_between):
                with self.subTest(wrong), raises(self, InvalidTold, "given", wrong):
                    call(layout, wrong, right)
                with self.subTest(wrong), raises(self, InvalidTold, "given", wrong):
                    call(layout, right, wrong)
                with self.subTest(wrong), raises(self, InvalidTold, "given", wrong):
                    call(layout, wrong, (None,))
        for value in no_fillings():
            if value != right:
                with self.subTest(value), raises(self, InvalidTold, "given", value):
                    wish_between(layout, (1, 1, 1), value)


class AllWishes(unittest.TestCase):
    def listed(self, model, told):
        """The wishes to all tuples that differ in as many records as may be changed."""
        found = []
        for other in model.tolds():
            wish = [(record, other[record]) for record in range(model.records) if told[record] != other[record]]
            if 1 <= len(wish) <= model.changes:
                found.append(wish)
        return sorted(found)

    def test_against_a_listing(self):
        for triple in SMALL + [(4, 4, 3), (5, 2, 2), (6, 3, 2)]:
            model = Model(*triple)
            for told in model.tolds():
                self.assertEqual(all_wishes(model.layout, told), self.listed(model, told))
        self.assertEqual(all_wishes(told=(1,), layout=Layout(1, 1, 2)), [[(0, 0)]])

    def test_just_below_the_limit(self):
        model = Model(3, 3, 27)
        told = (26, 13, 0)
        self.assertEqual(all_wishes(model.layout, told), self.listed(model, told))
        found = all_wishes(Layout(4, 2, 58), (0, 57, 5, 28))
        self.assertEqual(len(found), 19722)
        self.assertEqual(found, sorted(found))
        self.assertEqual(len({tuple(wish) for wish in found}), 19722)

    def test_just_above_the_limit(self):
        for records, changes, contents, number in [(7, 2, 32, 20398), (4, 2, 59, 20416), (4, 4, 12, 20735)]:
            with raises_too_many(self, number):
                all_wishes(Layout(records, changes, contents), (0,) * records)
        with raises_too_many(self, 64 ** 8 - 1):
            all_wishes(Layout(8, 8, 64), (63,) * 8)

    def test_errors_in_order(self):
        for value in no_fillings():
            with self.subTest(value), raises(self, InvalidTold, "given", value):
                all_wishes(Layout(8, 8, 64), value)
        wrong = [0, 1]
        with raises(self, InvalidTold, "given", wrong):
            all_wishes(Layout(2, 1, 2), wrong)

    def test_the_lists_may_be_changed(self):
        layout = Layout(2, 2, 2)
        found = all_wishes(layout, (0, 1))
        self.assertEqual(len({id(wish) for wish in found}), 3)
        for wish in found:
            wish.clear()
        found.clear()
        self.assertEqual(all_wishes(layout, (0, 1)), [[(0, 1)], [(0, 1), (1, 0)], [(1, 0)]])
