"""Points 51 to 53, and what points 2, 5, 8 and 9 say of lots and their codes."""

import unittest
from itertools import combinations, product

from leastspare.errors import InvalidCodes, InvalidLot, InvalidNumber, InvalidWish
from leastspare.layouts import Layout, is_wish
from leastspare.lots import code_of, is_lot, lot_at, lot_for, lot_number, lot_told, lots
from tests.model import Model
from tests.support import NO_INTEGERS, no_fillings, no_lists, raises

SMALL = [(1, 1, 2), (2, 1, 2), (2, 2, 2), (2, 1, 3), (3, 1, 2), (3, 2, 2), (3, 3, 2), (3, 2, 5), (4, 1, 2), (4, 2, 2)]
MORE = SMALL + [(4, 2, 3), (4, 2, 6), (4, 2, 7), (4, 3, 2), (5, 1, 2), (5, 2, 3), (5, 3, 10), (6, 3, 2), (6, 6, 4)]
GREAT = [(8, 4, 2), (8, 4, 64), (8, 5, 3), (7, 2, 4), (8, 1, 2), (8, 8, 64)]

# Not one of these is a lot of Layout(4, 2, 2).
NO_LOTS = no_lists() + [
    [], [1], [0, 1, 2], [0, 1, 2, 3], [3, 1], [1, 1], [0, 4], [-1, 0], [0, 10 ** 60], [0, None], [None, 1], [0, True],
    [False, 1], [0, "1"], [[0], [1]], [[0, 1]], [(0, 1)], ((0, 1),), (), (1, 0), (0, 1, 2), (0, True), [0, [1]],
    [{}, {}], [[[[[[[[0, 1]]]]]]]],
]


class Examples(unittest.TestCase):
    def test_of_the_interface(self):
        layout = Layout(4, 2, 2)
        told = [lots(layout), lot_at(layout, 2), lot_at(layout, 4), lot_number(layout, [1, 3])]
        self.assertEqual(told + [code_of(layout, [1, 3])], [6, [0, 3], [1, 3], 4, (1, 0, 0)])
        told = [lot_told(layout, (1, 0, 0)), lot_told(layout, (1, 1, 1))]
        self.assertEqual(told + [lot_for(layout, [(2, 1)]), lot_for(layout, [])], [[1, 3], [0, 2], [0, 2], [0, 1]])
        told = [code_of(Layout(2, 2, 2), [0, 1]), lot_told(Layout(2, 2, 2), ())]
        self.assertEqual(told, [(), [0, 1]])
        wrong = [3, 1]
        with raises(self, InvalidLot, "given", wrong):
            lot_number(layout, wrong)


class Lots(unittest.TestCase):
    def test_just_the_listed_ones(self):
        for triple in SMALL:
            model = Model(*triple)
            for size in range(model.records + 2):
                for row in product(range(-1, model.records + 1), repeat=size):
                    is_one = list(row) in model.lots
                    self.assertIs(is_lot(model.layout, list(row)), is_one)
                    self.assertIs(is_lot(model.layout, row), is_one)
        self.assertIs(is_lot(value=[0, 2], layout=Layout(3, 2, 2)), True)

    def test_values_of_every_kind(self):
        for value in NO_LOTS:
            with self.subTest(value):
                self.assertIs(is_lot(Layout(4, 2, 2), value), False)

    def test_their_number(self):
        for triple in MORE + GREAT:
            self.assertEqual(lots(layout=Layout(*triple)), len(Model(*triple).lots))


class Numbers(unittest.TestCase):
    def test_there_and_back(self):
        for triple in MORE + GREAT:
            model = Model(*triple)
            for number, lot in enumerate(model.lots):
                self.assertEqual(lot_at(model.layout, number), lot)
                self.assertEqual(lot_number(model.layout, lot), number)
                self.assertEqual(lot_number(model.layout, tuple(lot)), number)

    def test_ascend_as_python_orders_lists(self):
        for triple in MORE + GREAT:
            layout = Layout(*triple)
            found = [lot_at(layout, number) for number in range(lots(layout))]
            self.assertEqual(found, sorted(found))
            self.assertEqual(len({tuple(lot) for lot in found}), lots(layout))

    def test_by_name(self):
        self.assertEqual(lot_at(number=1, layout=Layout(3, 2, 2)), [0, 2])
        self.assertEqual(lot_number(lot=[0, 2], layout=Layout(3, 2, 2)), 1)

    def test_wrong_numbers(self):
        for triple in MORE + GREAT:
            layout = Layout(*triple)
            for number in (-1, lots(layout), lots(layout) + 1, -lots(layout), 10 ** 60):
                with raises(self, InvalidNumber, "given", number):
                    lot_at(layout, number)
        for value in NO_INTEGERS:
            with self.subTest(value), raises(self, InvalidNumber, "given", value):
                lot_at(Layout(4, 2, 2), value)

    def test_wrong_lots(self):
        for value in NO_LOTS:
            for call in (lot_number, code_of):
                with self.subTest(value), raises(self, InvalidLot, "given", value):
                    call(Layout(4, 2, 2), value)

    def test_the_list_may_be_changed(self):
        layout = Layout(3, 2, 2)
        lot_at(layout, 1).clear()
        self.assertEqual(lot_at(layout, 1), [0, 2])

    def test_the_list_that_is_passed_stays(self):
        lot = [0, 2]
        lot_number(Layout(3, 2, 2), lot)
        code_of(Layout(3, 2, 2), lot)
        self.assertEqual(lot, [0, 2])


class Codes(unittest.TestCase):
    def test_there_and_back(self):
        for triple in MORE + GREAT:
            model = Model(*triple)
            for lot, code in zip(model.lots, model.codes):
                self.assertEqual(code_of(model.layout, lot), code)
                self.assertEqual(code_of(model.layout, tuple(lot)), code)
                self.assertEqual(lot_told(model.layout, code), lot)

    def test_figures_from_the_number_of_lots_on(self):
        for triple in MORE + [(8, 4, 2), (8, 5, 3), (7, 2, 4)]:
            model = Model(*triple)
            self.assertGreaterEqual(len(model.codes), len(model.lots))
            for number, code in enumerate(model.codes):
                self.assertEqual(lot_told(model.layout, code), model.lots[number % len(model.lots)])
        self.assertEqual(lot_told(Layout(8, 4, 64), (63, 63)), Model(8, 4, 64).lots[4095 % 70])

    def test_without_places(self):
        for records in range(1, 9):
            for contents in (2, 3, 64):
                layout, every = Layout(records, records, contents), list(range(records))
                self.assertEqual((lots(layout), lot_at(layout, 0), lot_number(layout, every)), (1, every, 0))
                self.assertEqual((code_of(layout, every), lot_told(layout, ())), ((), every))

    def test_by_name(self):
        self.assertEqual(code_of(lot=[0, 2], layout=Layout(3, 2, 2)), (0, 1))
        self.assertEqual(lot_told(codes=(0, 1), layout=Layout(3, 2, 2)), [0, 2])

    def test_wrong_codes(self):
        wrong = [(), (0, 0), (0, 0, 0, 0), (0, 0, 2), (0, 0, -1), (0, 0, True), (None, 0, 0), ("0", 0, 0), [0, 0, 0]]
        wrong += [((0,), 0, 0), ([0], 0, 0), ((0, 0, 0),), (10 ** 60, 0, 0)]
        for value in wrong + [value for value in no_fillings()]:
            with self.subTest(value), raises(self, InvalidCodes, "given", value):
                lot_told(Layout(4, 2, 2), value)
        for value in no_lists() + [[], (0,), [0]]:
            with self.subTest(value), raises(self, InvalidCodes, "given", value):
                lot_told(Layout(2, 2, 2), value)

    def test_the_list_may_be_changed(self):
        layout = Layout(4, 2, 2)
        lot_told(layout, (1, 0, 0)).append(9)
        self.assertEqual(lot_told(layout, (1, 0, 0)), [1, 3])


class LotOfAWish(unittest.TestCase):
    def test_of_wishes_of_every_size(self):
        for triple in [(4, 2, 2), (4, 3, 2), (5, 3, 2), (3, 3, 3), (1, 1, 2), (5, 1, 2)]:
            model = Model(*triple)
            for wish in model.wishes():
                self.assertEqual(lot_for(model.layout, wish), model.lot_for(wish))
                self.assertEqual(lot_for(model.layout, tuple(wish)), model.lot_for(wish))

    def test_of_great_layouts(self):
        for changes in range(1, 9):
            layout = Layout(8, changes, 64)
            for size in range(changes + 1):
                for wished in combinations(range(8), size):
                    rest = [record for record in range(8) if record not in wished]
                    lot = sorted([*wished, *rest[:changes - size]])
                    self.assertEqual(lot_for(layout, [(record, 63) for record in wished]), lot)

    def test_by_name(self):
        self.assertEqual(lot_for(wish=[(2, 1)], layout=Layout(4, 2, 2)), [0, 2])

    def test_wrong_wishes(self):
        wrong = [[(3, 0), (1, 1)], [(0, 0), (0, 1)], [(0, 0), (1, 0), (2, 0)], [(4, 0)], [(0, 2)], [[0, 1]], (0, 1)]
        wrong += [[(True, 0)], [(0, False)], [(0,)], [None], *no_lists()]
        for value in wrong:
            self.assertIs(is_wish(Layout(4, 2, 2), value), False)
            with self.subTest(value), raises(self, InvalidWish, "given", value):
                lot_for(Layout(4, 2, 2), value)

    def test_the_lists_may_be_changed(self):
        layout, wish = Layout(4, 2, 2), [(2, 1)]
        lot_for(layout, wish).clear()
        self.assertEqual((lot_for(layout, wish), wish), ([0, 2], [(2, 1)]))
