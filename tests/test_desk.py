"""Points 181 to 183, and what points 2, 4, 7 to 10 say of desks."""

import unittest
from itertools import product

from leastspare.desk import Desk
from leastspare.errors import (InvalidGroups, InvalidWish, NothingToRedo, NothingToUndo, NotLeft, NoWay, SpareError,
                               TooMany)
from leastspare.layouts import Layout, disk_of
from leastspare.plans import plan
from tests.board import figure
from tests.model import Model, moments
from tests.support import NO_INTEGERS, fixed_numbers, no_fillings, no_lists, raises, raises_equal, raises_too_many

TRIPLES = [(1, 1, 2), (2, 1, 2), (2, 2, 2), (1, 1, 3), (3, 1, 2), (2, 2, 3)]

# Not one of these is a wish of two records with two contents, of which one is changed at once.
NO_WISHES = no_lists() + [[(2, 0)], [(0, 2)], [(0, 0), (1, 0)], [[0, 0]], (0, 0), [(True, 0)], [(0, False)], [None], [()]]


class Played:
    """A desk as the document tells of one."""

    def __init__(self, triple, torn):
        self.model, self.torn = Model(*triple), torn
        filling = (0,) * self.model.blocks
        self.states, self.done, self.undone = [(filling, (0,) * self.model.records)], [], []

    def filling(self):
        return self.states[-1][0]

    def due(self):
        return self.states[-1][1]

    def told(self):
        return self.model.read(self.filling())

    def number(self, filling):
        return figure(filling, self.model.contents)

    def left(self, groups):
        """The fillings that a cut may leave during these groups, by their numbers."""
        found = moments(self.model.disk, self.filling(), groups, self.torn)
        return {self.number(filling): filling for filling in found}

    def do(self, deed):
        """Do a deed; return the tuple of the class and the attribute of its error, or None."""
        word, wish, *more = deed
        if self.told() != self.due():
            return NoWay, (self.due(), self.told())
        granted = self.model.grant(self.due(), wish)
        if word == "wish":
            filling, due = self.filling(), granted
            for group in self.model.plan(filling, wish):
                filling = self.model.behind(filling, group)
        else:
            groups = self.model.plan(self.filling(), wish) if word == "cut_in" else more[0]
            left = self.left(groups)
            if more[-1] not in left:
                return NotLeft, more[-1]
            filling = left[more[-1]]
            due = self.model.read(filling)
            if word == "by_hand" and due not in (self.due(), granted):
                due = self.due()
        self.states.append((filling, due))
        self.done.append(deed)
        self.undone = []
        return None

    def undo(self):
        if not self.done:
            return NothingToUndo, None
        self.undone.append((self.done.pop(), self.states.pop()))
        return None

    def redo(self):
        if not self.undone:
            return NothingToRedo, None
        deed, state = self.undone.pop()
        self.done.append(deed)
        self.states.append(state)
        return None

    def hints(self, wish, groups):
        """All right answers of hint."""
        told = self.told()
        new = self.model.grant(told, wish)
        others = [number for number, filling in self.left(groups).items()
                  if self.model.read(filling) not in (told, new)]
        last = self.filling()
        for group in groups:
            last = self.model.behind(last, group)
        return others or [None if self.model.read(last) == new else -1]

    def drawn_groups(self, wish, numbers):
        """Groups that look random, or a plan with something changed."""
        model = self.model
        if next(numbers) % 3 == 0:
            return [[(next(numbers) % model.blocks, next(numbers) % model.contents) for _ in range(next(numbers) % 4)]
                    for _ in range(next(numbers) % 4)]
        groups = [list(group) for group in model.plan(self.filling(), wish)]
        if next(numbers) % 2:
            at, other = next(numbers) % 4, next(numbers) % 4
            groups[at], groups[other] = groups[other], groups[at]
        at = next(numbers) % 5
        if at < 4 and groups[at]:
            groups[at].pop(next(numbers) % len(groups[at]))
        return groups

    def drawn(self, numbers):
        """A deed that looks random; most are let."""
        wishes = self.model.wishes()
        wish = wishes[next(numbers) % len(wishes)]
        word = ["wish", "cut_in", "by_hand", "by_hand"][next(numbers) % 4]
        if word == "wish":
            return word, wish
        groups = self.model.plan(self.filling(), wish) if word == "cut_in" else self.drawn_groups(wish, numbers)
        left = sorted(self.left(groups))
        number = left[next(numbers) % len(left)]
        if next(numbers) % 6 == 0:
            number = next(numbers) % self.model.contents ** self.model.blocks
        return (word, wish, number) if word == "cut_in" else (word, wish, groups, number)


def call_of(desk, deed):
    word, *given = deed
    return getattr(desk, word)(*given)


def error_of(call, *given):
    """The tuple of the class and the attribute of the error that a call raises, or what it returns."""
    try:
        return call(*given)
    except SpareError as error:
        return type(error), (list(vars(error).values()) or [None])[0]


class Compared(unittest.TestCase):
    def compare(self, desk, played):
        self.assertEqual((desk.filling(), desk.told(), desk.due()), (played.filling(), played.told(), played.due()))
        self.assertEqual([type(desk.filling()), type(desk.told()), type(desk.due())], [tuple] * 3)
        self.assertIs(desk.is_broken(), played.told() != played.due())
        self.assertEqual(desk.deeds(), played.done)


class Examples(unittest.TestCase):
    def test_of_the_interface(self):
        desk = Desk(Layout(2, 2, 2))
        desk.wish([(0, 1)])
        told = [desk.filling(), desk.told(), desk.due(), desk.is_broken()]
        self.assertEqual(told, [(0, 0, 1, 0, 1), (1, 0), (1, 0), False])
        self.assertIn(desk.hint([(0, 0), (1, 1)], [[(2, 0), (3, 1)]]), [1, 7])
        self.assertIsNone(desk.hint([], []))
        self.assertIsNone(desk.by_hand([(0, 0), (1, 1)], [[(2, 0), (3, 1)]], 1))
        self.assertEqual([desk.told(), desk.due(), desk.is_broken()], [(0, 0), (1, 0), True])
        desk.undo()
        self.assertEqual([desk.told(), desk.deeds()], [(1, 0), [("wish", [(0, 1)])]])
        desk = Desk(Layout(2, 2, 2), torn=False)
        desk.cut_in([(1, 1)], 3)
        self.assertEqual([desk.filling(), desk.told(), desk.due()], [(0, 0, 0, 1, 1), (0, 1), (0, 1)])
        desk.undo()
        with raises_equal(self, NotLeft, "filling", 4):
            desk.cut_in([(1, 1)], 4)
        desk = Desk(Layout(2, 2, 2))
        desk.by_hand([(0, 1), (1, 1)], [[(0, 1), (1, 1)]], 8)
        with raises_equal(self, NoWay, "change", ((0, 0), (0, 1))):
            desk.wish(None)


class Deeds(Compared):
    def test_a_new_desk(self):
        for triple in TRIPLES + [(8, 4, 64), (8, 8, 2)]:
            for desk in (Desk(Layout(*triple)), Desk(layout=Layout(*triple), torn=False)):
                self.compare(desk, Played(triple, True))
        with self.assertRaises(TypeError):
            Desk(Layout(1, 1, 2), False)

    def test_each_deed_against_a_model(self):
        met = {}
        for seed, (triple, torn) in enumerate(product(TRIPLES, (True, False))):
            numbers = fixed_numbers(181 + seed)
            for _ in range(12):
                desk, played = Desk(Layout(*triple), torn=torn), Played(triple, torn)
                for _ in range(25):
                    if played.told() != played.due() and next(numbers) % 3:
                        word, expected = "undo", played.undo()
                        found = error_of(desk.undo)
                    elif next(numbers) % 4 == 0:
                        word = ["undo", "redo"][next(numbers) % 2]
                        expected = getattr(played, word)()
                        found = error_of(getattr(desk, word))
                    else:
                        deed = played.drawn(numbers)
                        word, expected = deed[0], played.do(deed)
                        found = error_of(call_of, desk, deed)
                    self.assertEqual(found, expected)
                    self.compare(desk, played)
                    kind = (word, expected and expected[0])
                    met[kind] = met.get(kind, 0) + 1
                    if word == "by_hand" and expected is None:
                        kind = ("by_hand", desk.is_broken(), desk.due() == played.states[-2][1])
                        met[kind] = met.get(kind, 0) + 1
        kinds = [("wish", None), ("cut_in", None), ("cut_in", NotLeft), ("by_hand", None), ("by_hand", NotLeft),
                 ("undo", None), ("undo", NothingToUndo), ("redo", None), ("redo", NothingToRedo), ("wish", NoWay),
                 ("cut_in", NoWay), ("by_hand", NoWay), ("by_hand", True, True), ("by_hand", False, True),
                 ("by_hand", False, False)]
        for kind in kinds:
            self.assertGreater(met[kind], 10, kind)

    def test_cuts_at_each_moment_of_a_plan(self):
        for triple, torn in product([(1, 1, 2), (2, 1, 2), (2, 2, 2), (1, 1, 3)], (True, False)):
            for first in Model(*triple).wishes()[::2]:
                for wish in Model(*triple).wishes():
                    played = Played(triple, torn)
                    played.do(("wish", first))
                    left = played.left(played.model.plan(played.filling(), wish))
                    desk = Desk(Layout(*triple), torn=torn)
                    desk.wish(first)
                    for number in range(played.model.contents ** played.model.blocks):
                        found, expected = error_of(desk.cut_in, wish, number), played.do(("cut_in", wish, number))
                        self.assertEqual(found, expected)
                        self.assertIs(expected is None, number in left)
                        if found is None:
                            self.compare(desk, played)
                            self.assertIs(desk.is_broken(), False)
                            desk.undo(), played.undo()

    def test_cuts_at_each_moment_of_handed_groups(self):
        numbers, broken = fixed_numbers(91), set()
        for triple, torn in product([(1, 1, 2), (2, 2, 2), (1, 1, 3)], (True, False)):
            played, desk = Played(triple, torn), Desk(Layout(*triple), torn=torn)
            for _ in range(15):
                wish = played.model.wishes()[next(numbers) % len(played.model.wishes())]
                groups = played.drawn_groups(wish, numbers)
                for number in range(played.model.contents ** played.model.blocks):
                    deed = ("by_hand", wish, groups, number)
                    found, expected = error_of(call_of, desk, deed), played.do(deed)
                    self.assertEqual(found, expected)
                    if found is None:
                        self.compare(desk, played)
                        broken.add(desk.is_broken())
                        desk.undo(), played.undo()
                played.do(("wish", wish)), desk.wish(wish)
        self.assertEqual(broken, {True, False})

    def test_by_hand_ends_with_a_cut(self):
        # Behind all groups, and ahead of them, a cut may come; without groups nothing else is left.
        desk = Desk(Layout(1, 1, 2))
        for groups, number, told in [([], 0, (0,)), ([[]], 0, (0,)), ([[(0, 1)]], 0, (0,)), ([[(0, 1)]], 4, (1,)),
                                     ([[(1, 1)], [(2, 1)]], 3, (1,)), ([[(1, 1)], [(2, 1)]], 2, (0,))]:
            desk.by_hand([(0, 1)], groups, number)
            self.assertEqual((desk.told(), desk.due(), desk.is_broken()), (told, told, False))
            desk.undo()
        with raises_equal(self, NotLeft, "filling", 1):
            desk.by_hand([(0, 1)], [[(1, 1)], [(2, 1)]], 1)
        desk.by_hand([(0, 0)], [[(0, 1)]], 4)
        self.assertEqual((desk.told(), desk.due(), desk.is_broken()), ((1,), (0,), True))

    def test_what_is_returned(self):
        desk = Desk(Layout(1, 1, 2))
        told = [desk.wish([]), desk.cut_in([(0, 1)], 2), desk.by_hand([], [], 2), desk.undo(), desk.redo()]
        self.assertEqual(told, [None] * 5)
        self.assertEqual(desk.deeds(), [("wish", []), ("cut_in", [(0, 1)], 2), ("by_hand", [], [], 2)])

    def test_empty_wishes_and_such_that_change_nothing_are_deeds(self):
        desk = Desk(Layout(2, 1, 2))
        for wish in ([], [(0, 0)], [(1, 0)]):
            desk.wish(wish)
            self.assertEqual((desk.told(), desk.due(), desk.is_broken()), ((0, 0), (0, 0), False))
        self.assertEqual(desk.deeds(), [("wish", []), ("wish", [(0, 0)]), ("wish", [(1, 0)])])
        for _ in range(3):
            desk.undo()
        self.assertEqual(desk.filling(), (0,) * 5)

    def test_by_name(self):
        desk = Desk(torn=True, layout=Layout(1, 1, 2))
        desk.wish(wish=[(0, 1)])
        desk.cut_in(number=3, wish=[])
        desk.by_hand(number=7, groups=[[(0, 1)]], wish=[])
        self.assertIsNone(desk.hint(groups=[], wish=[]))
        self.assertEqual([deed[0] for deed in desk.deeds()], ["wish", "cut_in", "by_hand"])
        for call, many in [(desk.wish, 1), (desk.cut_in, 2), (desk.by_hand, 3), (desk.hint, 2)]:
            with self.assertRaises(TypeError):
                call(*[[]] * (many + 1))


class Refusals(Compared):
    def calls(self, desk):
        """All calls that a broken desk refuses, with arguments right and wrong."""
        for wish, groups, number in product([[], [(0, 1)], None, [(9, 9)]], [[], [[(0, 1)]], None, [[]] * 9],
                                            [0, -1, None, 10 ** 60]):
            yield from [(desk.wish, [wish]), (desk.cut_in, [wish, number]), (desk.by_hand, [wish, groups, number]),
                        (desk.hint, [wish, groups])]

    def test_a_broken_desk(self):
        for torn in (True, False):
            desk = Desk(Layout(2, 2, 2), torn=torn)
            desk.wish([(1, 1)])
            desk.by_hand([(0, 1), (1, 0)], [[(4, 0)]], 2)
            self.assertEqual((desk.told(), desk.due(), desk.is_broken()), ((0, 0), (0, 1), True))
            deeds = desk.deeds()
            for call, given in self.calls(desk):
                with raises_equal(self, NoWay, "change", ((0, 1), (0, 0))):
                    call(*given)
            self.assertEqual((desk.deeds(), desk.told(), desk.due()), (deeds, (0, 0), (0, 1)))
            with self.assertRaises(NothingToRedo):
                desk.redo()
            desk.undo()
            self.assertIs(desk.is_broken(), False)
            desk.redo()
            self.assertIs(desk.is_broken(), True)

    def test_wishes_that_are_none(self):
        desk = Desk(Layout(2, 1, 2))
        for wish in NO_WISHES:
            for call, more in [(desk.wish, []), (desk.cut_in, [0]), (desk.cut_in, [None]), (desk.by_hand, [[], 0]),
                               (desk.by_hand, [None, None]), (desk.by_hand, [[], None]), (desk.hint, [[]]),
                               (desk.hint, [None])]:
                with self.subTest(wish), raises(self, InvalidWish, "given", wish):
                    call(wish, *more)
        self.assertEqual(desk.deeds(), [])

    def test_groups_that_are_none(self):
        # The disk has five blocks with two contents.
        desk = Desk(Layout(2, 1, 2))
        wrong = no_lists() + [[[]] * 9, [[(0, 1)] * 25], [(0, 1)], [[(5, 0)]], [[(0, 2)]], [[[0, 1]]], [[(0,)]], [None], [[None]],
                              [[(0, 1)], [(-1, 0)]], [[(True, 0)]], [[(0, 1, 1)]], [0], "ab", [[(0, 1)], 0]]
        for groups in wrong:
            for call, more in [(desk.by_hand, [0]), (desk.by_hand, [-1]), (desk.by_hand, [None]), (desk.hint, [])]:
                with self.subTest(groups), raises(self, InvalidGroups, "given", groups):
                    call([(0, 1)], groups, *more)
        desk.by_hand([], [[(0, 0)] * 24] * 8, 0)
        desk.by_hand((), (((0, 0),),), 0)
        self.assertEqual(desk.deeds()[1], ("by_hand", [], [[(0, 0)]], 0))

    def test_numbers_that_are_none(self):
        for torn in (True, False):
            desk = Desk(Layout(2, 1, 2), torn=torn)
            for number in [-1, 32, 33, 10 ** 60, 16, *NO_INTEGERS, *no_lists(), *no_fillings()]:
                if type(number) is int and number == 0:
                    continue
                if type(number) is not int or number != 1:
                    for call, given in [(desk.cut_in, [[(0, 0)]]), (desk.by_hand, [[], [[(4, 1)]]])]:
                        with self.subTest(number), raises(self, NotLeft, "filling", number):
                            call(*given, number)
            self.assertEqual((desk.deeds(), desk.filling()), ([], (0,) * 5))

    def test_on_great_disks_no_deed_raises_too_many(self):
        for triple in [(3, 3, 64), (8, 4, 64), (8, 8, 64), (6, 3, 40)]:
            layout = Layout(*triple)
            blocks, records, changes, contents = disk_of(layout).blocks, *triple
            wish = [(record, contents - 1 - record) for record in range(changes)]
            desk = Desk(layout)
            groups = plan(layout, desk.filling(), wish)
            with self.assertRaises(TooMany):
                desk.hint(wish, groups)
            # A torn write to each of the news, and none to the records.
            left = (0,) * records + tuple(7 + at for at in range(changes)) + (0,) * (blocks - records - changes)
            desk.cut_in(wish, figure(left, contents))
            self.assertEqual((desk.filling(), desk.told(), desk.due()), (left, (0,) * records, (0,) * records))
            wrong = (1,) + left[1:]
            with raises_equal(self, NotLeft, "filling", figure(wrong, contents)):
                desk.cut_in(wish, figure(wrong, contents))
            desk.wish(wish)
            told = tuple(content for _, content in wish) + (0,) * (records - changes)
            self.assertEqual((desk.told(), desk.due(), desk.is_broken()), (told, told, False))
            # Now the mark has class B, so the plan writes the records home first.
            torn = tuple(9 if at < changes else content for at, content in enumerate(desk.filling()))
            desk.cut_in(wish, figure(torn, contents))
            self.assertEqual((desk.filling(), desk.due()), (torn, told))
            # By hand, all blocks at once.
            every = [[(block, 1) for block in range(blocks)]]
            desk.by_hand([], every, figure((5,) * blocks, contents))
            self.assertEqual((desk.told(), desk.due(), desk.is_broken()), ((5,) * records, told, True))
            desk.undo()
            with raises_too_many(self, contents ** blocks):
                desk.hint([], every)
            whole = Desk(layout, torn=False)
            with raises_equal(self, NotLeft, "filling", figure((5,) * blocks, contents)):
                whole.by_hand([], every, figure((5,) * blocks, contents))
            whole.by_hand([], every, figure((1,) * (blocks - 1) + (0,), contents))
            self.assertEqual(whole.told(), (1,) * records)


class Undoing(Compared):
    def test_refused_at_both_ends(self):
        desk = Desk(Layout(1, 1, 2))
        for _ in range(2):
            for call, kind in [(desk.undo, NothingToUndo), (desk.redo, NothingToRedo)]:
                with self.assertRaises(kind) as caught:
                    call()
                self.assertEqual((type(caught.exception), vars(caught.exception)), (kind, {}))
        desk.wish([(0, 1)])
        with self.assertRaises(NothingToRedo):
            desk.redo()
        desk.undo()
        with self.assertRaises(NothingToUndo):
            desk.undo()
        desk.redo()
        with self.assertRaises(NothingToRedo):
            desk.redo()
        self.assertEqual(desk.deeds(), [("wish", [(0, 1)])])

    def test_through_all_deeds(self):
        numbers = fixed_numbers(182)
        for triple, torn in product(TRIPLES, (True, False)):
            desk, played = Desk(Layout(*triple), torn=torn), Played(triple, torn)
            while len(played.done) < 20 and not desk.is_broken():
                deed = played.drawn(numbers)
                self.assertEqual(error_of(call_of, desk, deed), played.do(deed))
            many = len(played.done)
            for _ in range(2):
                for _ in range(many):
                    desk.undo(), played.undo()
                    self.compare(desk, played)
                with self.assertRaises(NothingToUndo):
                    desk.undo()
                for _ in range(many):
                    desk.redo(), played.redo()
                    self.compare(desk, played)
                with self.assertRaises(NothingToRedo):
                    desk.redo()

    def undone(self):
        """A desk with two deeds, and two that are undone."""
        desk = Desk(Layout(2, 1, 2))
        for record in (0, 1, 0, 1):
            desk.wish([(record, 1 - desk.due()[record])])
        desk.undo(), desk.undo()
        return desk

    def test_redo_behind_a_refused_call(self):
        desk = self.undone()
        for call, given in [(desk.wish, [None]), (desk.cut_in, [[(2, 0)], 0]), (desk.cut_in, [[], 0]), (desk.by_hand, [None, [], 0]),
                            (desk.by_hand, [[], None, 0]), (desk.by_hand, [[], [], 0]), (desk.hint, [None, []]),
                            (desk.hint, [[], None])]:
            with self.assertRaises(SpareError):
                call(*given)
        desk.redo(), desk.redo()
        self.assertEqual((desk.told(), len(desk.deeds())), ((0, 0), 4))

    def test_redo_behind_a_hint(self):
        desk = self.undone()
        self.assertEqual(desk.hint([], []), None)
        self.assertEqual(desk.hint([(0, 0)], []), -1)
        desk.redo(), desk.redo()
        self.assertEqual((desk.told(), len(desk.deeds())), ((0, 0), 4))

    def test_nothing_to_redo_behind_a_new_deed(self):
        for word, given in [("wish", [[]]), ("wish", [[(0, 1)]]), ("cut_in", [[], None]), ("by_hand", [[], [], None])]:
            desk = self.undone()
            now = figure(desk.filling(), 2)
            getattr(desk, word)(*[now if item is None else item for item in given])
            with self.assertRaises(NothingToRedo):
                desk.redo()
            self.assertEqual(len(desk.deeds()), 3)
            desk.undo()
            # That deed may be done again; those undone ahead of it may not.
            desk.redo()
            with self.assertRaises(NothingToRedo):
                desk.redo()

    def test_while_it_is_broken(self):
        desk = Desk(Layout(1, 1, 3))
        desk.wish([(0, 1)])
        desk.by_hand([(0, 0)], [[(1, 2)]], figure((0, 2, 1), 3))
        self.assertIs(desk.is_broken(), True)
        with self.assertRaises(NothingToRedo):
            desk.redo()
        desk.undo()
        self.assertEqual((desk.due(), desk.told(), desk.is_broken()), ((1,), (1,), False))
        desk.redo()
        self.assertEqual((desk.due(), desk.told(), desk.is_broken()), ((1,), (2,), True))
        desk.undo(), desk.undo()
        with self.assertRaises(NothingToUndo):
            desk.undo()

    def test_deeds_done_one_by_one_on_a_new_desk(self):
        numbers = fixed_numbers(183)
        for triple, torn in product(TRIPLES, (True, False)):
            desk, played = Desk(Layout(*triple), torn=torn), Played(triple, torn)
            for _ in range(40):
                if desk.is_broken():
                    desk.undo(), played.undo()
                deed = played.drawn(numbers)
                error_of(call_of, desk, deed), played.do(deed)
            other = Desk(Layout(*triple), torn=torn)
            for deed in desk.deeds():
                self.assertIsNone(call_of(other, deed))
            self.assertEqual((other.filling(), other.told(), other.due(), other.deeds()),
                             (desk.filling(), desk.told(), desk.due(), desk.deeds()))

    def test_lists_passed_and_told_may_be_changed(self):
        desk = Desk(Layout(2, 2, 2))
        wish, groups = [(0, 1)], [[(2, 1)], [(4, 1)]]
        desk.wish(wish)
        number = figure(desk.filling(), 2)
        desk.cut_in(wish, number)
        desk.by_hand(wish, groups, number)
        self.assertEqual((wish, groups), ([(0, 1)], [[(2, 1)], [(4, 1)]]))
        expected = [("wish", [(0, 1)]), ("cut_in", [(0, 1)], number), ("by_hand", [(0, 1)], [[(2, 1)], [(4, 1)]], number)]
        wish.append((1, 1))
        groups[0].clear()
        groups.append([(0, 0)])
        self.assertEqual(desk.deeds(), expected)
        for deed in desk.deeds():
            deed[1].clear()
        desk.deeds()[2][2][0].clear()
        desk.deeds()[2][2].clear()
        desk.deeds().clear()
        self.assertEqual(desk.deeds(), expected)
        desk.undo(), desk.redo()
        self.assertEqual(desk.deeds(), expected)

    def test_deeds_told_with_lists_where_tuples_were_passed(self):
        desk = Desk(Layout(2, 2, 2))
        desk.wish(((0, 1),))
        desk.cut_in((), figure(desk.filling(), 2))
        desk.by_hand(((1, 1),), (((1, 1),), ()), figure(desk.filling(), 2))
        for deed in desk.deeds():
            self.assertEqual((type(deed), type(deed[1])), (tuple, list))
        groups = desk.deeds()[2][2]
        self.assertEqual([type(part) for part in (groups, *groups)], [list] * 3)

    def test_200_deeds(self):
        desk, played = Desk(Layout(2, 2, 3)), Played((2, 2, 3), True)
        wishes = played.model.wishes()
        for at in range(200):
            wish = wishes[at * 7 % len(wishes)]
            desk.wish(wish), played.do(("wish", wish))
        self.compare(desk, played)
        for _ in range(200):
            desk.undo()
        for _ in range(200):
            desk.redo()
        self.compare(desk, played)


class Hints(Compared):
    def test_against_a_listing(self):
        numbers, met = fixed_numbers(184), {}
        for triple, torn in product(TRIPLES, (True, False)):
            desk, played = Desk(Layout(*triple), torn=torn), Played(triple, torn)
            for _ in range(60):
                wish = played.model.wishes()[next(numbers) % len(played.model.wishes())]
                groups = played.drawn_groups(wish, numbers)
                if next(numbers) % 9 == 0:
                    groups = played.model.plan(played.filling(), wish)
                found, right = desk.hint(wish, groups), played.hints(wish, groups)
                self.assertIn(found, right)
                self.assertTrue(found is None or type(found) is int)
                self.compare(desk, played)
                kind = found if found in (None, -1) else 0
                met[kind] = met.get(kind, 0) + 1
                if kind == 0:
                    desk.by_hand(wish, groups, found)
                    self.assertIs(desk.is_broken(), True)
                    desk.undo()
                else:
                    # No cut breaks the desk by these groups.
                    for number in played.left(groups):
                        desk.by_hand(wish, groups, number)
                        self.assertIs(desk.is_broken(), False)
                        desk.undo()
                deed = played.drawn(numbers)
                error_of(call_of, desk, deed), played.do(deed)
                if desk.is_broken():
                    desk.undo(), played.undo()
        self.assertEqual(set(met), {None, -1, 0})
        self.assertGreater(min(met.values()), 50)

    def test_own_plans_never_break_it(self):
        numbers = fixed_numbers(185)
        for triple, torn in product(TRIPLES, (True, False)):
            desk, played = Desk(Layout(*triple), torn=torn), Played(triple, torn)
            for _ in range(40):
                wish = played.model.wishes()[next(numbers) % len(played.model.wishes())]
                groups = plan(Layout(*triple), desk.filling(), wish)
                self.assertIsNone(desk.hint(wish, groups))
                left = sorted(played.left(groups))
                deed = ("cut_in", wish, left[next(numbers) % len(left)])
                self.assertEqual((error_of(call_of, desk, deed), played.do(deed)), (None, None))
                self.assertIs(desk.is_broken(), False)

    def test_an_equal_answer_for_equal_arguments(self):
        # The same filling, come to by other deeds, some of them undone.
        wish, groups = [(0, 1), (1, 1)], [[(0, 1), (1, 1)]]
        for torn in (True, False):
            answers = []
            for ahead in ([], [("wish", [])], [("wish", [(0, 1)]), ("undo",)], [("cut_in", [(0, 1)], 0)],
                          [("by_hand", [(0, 1)], [[(0, 1)]], 81), ("undo",), ("wish", [])]):
                desk = Desk(Layout(2, 2, 3), torn=torn)
                for deed in ahead:
                    call_of(desk, deed)
                self.assertEqual(desk.filling(), (0,) * 5)
                answers.append((desk.hint(wish, groups), desk.hint(tuple(wish), (((0, 1), (1, 1)),))))
            self.assertEqual(len(set(answers)), 1)
            self.assertEqual(answers[0][0], answers[0][1])

    def test_torn_and_whole_differ(self):
        # The record's own block, from 0 to 1: torn, it may be left with 2.
        for torn, hint in [(True, figure((2, 0, 0), 3)), (False, None)]:
            self.assertEqual(Desk(Layout(1, 1, 3), torn=torn).hint([(0, 1)], [[(0, 1)]]), hint)
        self.assertEqual(Desk(Layout(1, 1, 3)).hint([(0, 1)], []), -1)
        self.assertEqual(Desk(Layout(1, 1, 3)).hint([(0, 1)], [[(1, 1)]]), -1)

    def test_too_many(self):
        desk = Desk(Layout(2, 2, 64))
        with raises_too_many(self, 64 ** 3):
            desk.hint([(0, 1)], [[(0, 1), (1, 1), (2, 1)]])
        with raises_too_many(self, 64 ** 3 + 1):
            desk.hint([(0, 1)], [[(0, 1), (1, 1), (2, 1)], []])
        with raises(self, InvalidGroups, "given", None):
            desk.hint([], None)
        self.assertEqual(desk.deeds(), [])
        whole = Desk(Layout(2, 2, 64), torn=False)
        self.assertEqual(whole.hint([(0, 1), (1, 1)], [[(2, 1), (3, 1), (4, 0)], [(4, 40)]]), None)

    def test_the_lists_passed_stay(self):
        wish, groups = [(0, 1)], [[(1, 1)], [(2, 1)]]
        self.assertIsNone(Desk(Layout(1, 1, 2)).hint(wish, groups))
        self.assertEqual((wish, groups), ([(0, 1)], [[(1, 1)], [(2, 1)]]))
