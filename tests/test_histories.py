"""Points 81 to 83, and what points 2, 5, 8, 9 and 10 say of histories."""

import unittest
from itertools import product

from leastspare.disks import Disk
from leastspare.drives import Drive
from leastspare.errors import InvalidEvents, InvalidTold
from leastspare.histories import could_be, first_wrong, is_history, is_right
from leastspare.layouts import Layout
from leastspare.stores import Store
from tests.model import Model
from tests.support import fixed_numbers, no_fillings, no_lists, raises, raises_too_many

LAYOUT = Layout(2, 1, 3)

# Not one of these is an event of LAYOUT.
NO_EVENTS = no_lists() + [
    (), ["done"], ["cut"], "done", "cut", ["wish", [(0, 1)]], ["told", (0, 0)], [("done",)], (("done",),),
    ("done", None), ("done", ()), ("cut", 0), ("cut", "cut"), ("wish",), ("told",), ("wish", [], []),
    ("told", (0, 0), (0, 0)), ("Done",), ("done ",), ("",), (None,), (0,), (True,), ([],), ({},), (Disk(1, 2),),
    ("wishes", []), ("tell", (0, 0)), (["wish"], []), (None, []), (("wish",), []), (0, (0, 0)), ([], "wish"),
    ("wish", None), ("wish", 0), ("wish", "[]"), ("wish", {}), ("wish", [[0, 1]]), ("wish", (0, 1)), ("wish", [(2, 0)]),
    ("wish", [(0, 3)]), ("wish", [(0, True)]), ("wish", [(0, 1), (1, 1)]), ("wish", [None]), ("wish", [()]),
    ("told", None), ("told", [0, 0]), ("told", (0,)), ("told", (0, 0, 0)), ("told", (0, 3)), ("told", (0, -1)),
    ("told", (False, 0)), ("told", ()), ("told", "00"), ("told", ((0, 0),)), ("told", {"a": 0}), ("told", ([0], 0)),
    ("wish", (0, 0)), ("told", [(0, 1)]), ("done", (0, 0)), ("cut", [(0, 1)]),
]


class Examples(unittest.TestCase):
    def test_of_the_interface(self):
        events = [("wish", [(0, 1)]), ("told", (1, 0)), ("cut",), ("wish", [(1, 2)]), ("cut",)]
        self.assertEqual(could_be(LAYOUT, (0, 0), events), [(0, 0), (0, 2), (1, 0), (1, 2)])
        told = [could_be(LAYOUT, (0, 0), events + [("told", (0, 2))])]
        told.append(first_wrong(LAYOUT, (0, 0), events + [("told", (2, 0))]))
        self.assertEqual(told, [[(0, 2)], 5])
        told = [is_right(LAYOUT, (0, 0), [("told", (0, 1))]), is_history(LAYOUT, [("done",)]), is_history(LAYOUT, [])]
        self.assertEqual(told, [False, False, True])
        told = [first_wrong(LAYOUT, (0, 0), [("cut",), ("told", (0, 1)), ("told", (0, 0))])]
        self.assertEqual(told + [could_be(LAYOUT, (0, 0), [])], [1, [(0, 0)]])
        told = [could_be(LAYOUT, (0, 0), [("wish", []), ("told", (0, 0)), ("cut",)])]
        self.assertEqual(told + [could_be(LAYOUT, (0, 0), [("told", (1, 1))])], [[(0, 0)], []])
        told = [first_wrong(LAYOUT, (0, 0), [("wish", [(0, 1)]), ("told", (1, 0)), ("told", (0, 0))])]
        self.assertEqual(told + [is_history(LAYOUT, [("wish", [])])], [None, True])
        wrong = (0, 3)
        with raises(self, InvalidTold, "given", wrong):
            could_be(LAYOUT, wrong, [("done",)])


class Histories(unittest.TestCase):
    def test_all_rows_of_words(self):
        kinds = [("wish", [(1, 2)]), ("done",), ("cut",), ("told", (2, 0))]
        for size in range(6):
            for events in product(kinds, repeat=size):
                busy, right = False, True
                for event in events:
                    if event[0] in ("wish", "done"):
                        right = right and busy == (event[0] == "done")
                        busy = event[0] == "wish"
                    elif event[0] == "cut":
                        busy = False
                self.assertIs(is_history(LAYOUT, list(events)), right)
                self.assertIs(is_history(LAYOUT, events), right)

    def test_a_wish_while_one_is_under_way(self):
        self.assertIs(is_history(LAYOUT, [("wish", []), ("wish", [])]), False)
        self.assertIs(is_history(LAYOUT, [("wish", []), ("told", (0, 0)), ("wish", [])]), False)
        self.assertIs(is_history(LAYOUT, [("wish", []), ("cut",), ("wish", [])]), True)
        self.assertIs(is_history(LAYOUT, [("wish", []), ("done",), ("wish", [])]), True)

    def test_an_answer_while_none_is(self):
        for ahead in ([], [("cut",)], [("told", (0, 0))], [("wish", []), ("done",)], [("wish", []), ("cut",)]):
            self.assertIs(is_history(LAYOUT, ahead), True)
            self.assertIs(is_history(LAYOUT, ahead + [("done",)]), False)

    def test_an_end_while_a_wish_is_under_way(self):
        self.assertIs(is_history(LAYOUT, [("cut",), ("cut",), ("wish", [(0, 0)])]), True)
        self.assertIs(is_history(LAYOUT, [("wish", [(0, 0)]), ("told", (2, 2)), ("told", (0, 1))]), True)

    def test_wishes_as_lists_and_as_tuples(self):
        for events in ([("wish", ((0, 1),))], (("wish", [(0, 1)]),), (("wish", ()), ("done",)), ()):
            self.assertIs(is_history(LAYOUT, events), True)
        self.assertIs(is_history(value=[("wish", [])], layout=LAYOUT), True)

    def test_what_is_no_event(self):
        for value in NO_EVENTS:
            for events in ([value], (value,), [("cut",), value], [value, ("cut",)], [("wish", []), value]):
                with self.subTest(value):
                    self.assertIs(is_history(LAYOUT, events), False)

    def test_values_of_every_kind(self):
        for value in no_lists() + [("done",), ("wish", []), ("told", (0, 0)), ["cut"], [[]], [[("cut",)]], ((),)]:
            with self.subTest(value):
                self.assertIs(is_history(LAYOUT, value), False)

    def test_by_the_layout(self):
        self.assertIs(is_history(Layout(2, 2, 3), [("wish", [(0, 1), (1, 1)])]), True)
        self.assertIs(is_history(Layout(3, 1, 3), [("told", (0, 0))]), False)
        self.assertIs(is_history(Layout(3, 1, 3), [("wish", [(2, 0)]), ("told", (0, 0, 2))]), True)

    def test_at_most_1000_events(self):
        for event in (("cut",), ("told", (0, 0))):
            self.assertIs(is_history(LAYOUT, [event] * 1000), True)
            self.assertIs(is_history(LAYOUT, (event,) * 1000), True)
            self.assertIs(is_history(LAYOUT, [event] * 1001), False)
        self.assertEqual(could_be(LAYOUT, (0, 0), [("wish", [(0, 1)]), ("cut",)] * 500), [(0, 0), (1, 0)])
        self.assertIsNone(first_wrong(LAYOUT, (0, 0), [("told", (0, 0))] * 1000))
        self.assertEqual(first_wrong(LAYOUT, (0, 0), [("cut",)] * 999 + [("told", (0, 1))]), 999)
        wrong = [("cut",)] * 1001
        for call in (could_be, is_right, first_wrong):
            with raises(self, InvalidEvents, "given", wrong):
                call(LAYOUT, (0, 0), wrong)


def runs_of(model, start, events):
    """What the records have behind all runs that fit the events: each wish that was given up came through or not."""
    given_up, busy = 0, False
    for event in events:
        given_up += event[0] == "cut" and busy
        busy = event[0] == "wish" or busy and event[0] == "told"
    found = set()
    for choices in product((False, True), repeat=given_up):
        told = run_of(model, start, events, list(choices))
        if told is not None:
            found.add(told)
    return sorted(found)


def run_of(model, told, events, choices):
    wish = None
    for event in events:
        if event[0] == "told":
            if event[1] != told and (wish is None or event[1] != model.grant(told, wish)):
                return None
        elif event[0] == "wish":
            wish = event[1]
        else:
            if wish is not None and (event[0] == "done" or choices.pop(0)):
                told = model.grant(told, wish)
            wish = None
    return told


def some_history(model, numbers, size):
    """A history that goes on as it may; most tellings tell what some run has."""
    tolds, wishes = list(model.tolds()), model.wishes()
    start = tolds[next(numbers) % len(tolds)]
    events, told, wish = [], start, None
    for _ in range(size):
        at = next(numbers) % 8
        if at < 3:
            telling = told if wish is None or at else model.grant(told, wish)
            events.append(("told", tolds[next(numbers) % len(tolds)] if next(numbers) % 6 == 0 else telling))
        elif wish is None and at < 7:
            wish = wishes[next(numbers) % len(wishes)]
            events.append(("wish", wish if at % 2 else tuple(wish)))
        elif wish is None or at < 6:
            told = model.grant(told, wish) if wish is not None and at % 2 else told
            wish = None
            events.append(("cut",))
        else:
            told, wish = model.grant(told, wish), None
            events.append(("done",))
    return start, events


class Possible(unittest.TestCase):
    def check(self, model, start, events):
        before = list(events)
        behind = [runs_of(model, start, events[:many]) for many in range(len(events) + 1)]
        wrong = [many - 1 for many, found in enumerate(behind) if not found]
        self.assertEqual(could_be(model.layout, start, events), behind[-1])
        self.assertIs(is_right(model.layout, start, events), not wrong)
        self.assertEqual(first_wrong(model.layout, start, events), wrong[0] if wrong else None)
        self.assertEqual(could_be(model.layout, start, tuple(events)), behind[-1])
        self.assertEqual(events, before)
        return not wrong

    def test_against_runs(self):
        for seed, triple in enumerate([(2, 1, 2), (2, 2, 2), (2, 1, 3), (3, 2, 2), (1, 1, 4)]):
            model, numbers = Model(*triple), fixed_numbers(seed)
            right = [self.check(model, *some_history(model, numbers, size % 16)) for size in range(300)]
            self.assertEqual({True, False}, set(right))

    def test_all_short_ones(self):
        model = Model(1, 1, 2)
        kinds = [("wish", [(0, 0)]), ("wish", [(0, 1)]), ("wish", []), ("done",), ("cut",), ("told", (0,)), ("told", (1,))]
        for size in range(5):
            for events in product(kinds, repeat=size):
                if is_history(model.layout, events):
                    self.check(model, (0,), list(events))

    def test_one_telling_changed(self):
        model = Model(2, 1, 2)
        events = [("wish", [(0, 1)]), ("told", (0, 0)), ("told", (1, 0)), ("cut",), ("told", (1, 0)), ("wish", [(1, 1)])]
        events += [("done",), ("told", (1, 1)), ("cut",), ("told", (1, 1))]
        self.assertIs(self.check(model, (0, 0), events), True)
        for at, event in enumerate(events):
            if event[0] == "told":
                for told in model.tolds():
                    self.check(model, (0, 0), events[:at] + [("told", told)] + events[at + 1:])
        self.assertEqual(first_wrong(model.layout, (0, 0), events[:4] + [("told", (1, 1))] + events[5:]), 4)
        # With record 0 as it was behind the cut, the later tellings are wrong.
        self.assertEqual(first_wrong(model.layout, (0, 0), events[:4] + [("told", (0, 0))] + events[5:]), 7)

    def test_the_same_wish_twice(self):
        events = [("wish", [(0, 1)]), ("cut",), ("wish", [(0, 1)]), ("cut",)]
        self.assertEqual(could_be(LAYOUT, (0, 0), events), [(0, 0), (1, 0)])
        self.assertEqual(could_be(LAYOUT, (0, 0), events[:3] + [("done",)]), [(1, 0)])

    def test_wishes_that_change_nothing(self):
        for wish in ([], [(0, 0)], ()):
            for ending in ("done", "cut"):
                self.assertEqual(could_be(LAYOUT, (0, 2), [("wish", wish), (ending,)]), [(0, 2)])

    def test_a_telling_with_the_wish_and_a_later_one_without_it(self):
        begun = [("wish", [(0, 1)]), ("told", (1, 0))]
        self.assertEqual(could_be(LAYOUT, (0, 0), begun), [(0, 0)])
        self.assertEqual(could_be(LAYOUT, (0, 0), begun + [("told", (0, 0)), ("told", (1, 0))]), [(0, 0)])
        self.assertEqual(could_be(LAYOUT, (0, 0), begun + [("cut",), ("told", (0, 0))]), [(0, 0)])
        self.assertEqual(could_be(LAYOUT, (0, 0), begun + [("done",), ("told", (0, 0))]), [])

    def test_a_telling_of_a_wish_under_way_picks(self):
        # Either of two tuples tells (1, 0) while this wish is under way, and one of three does not.
        events = [("wish", [(0, 1)]), ("cut",), ("wish", [(1, 2)]), ("cut",), ("wish", [(0, 1)]), ("told", (1, 0))]
        self.assertEqual(could_be(LAYOUT, (0, 0), events), [(0, 0), (1, 0)])

    def test_what_is_returned_may_be_changed(self):
        for events in ([], [("wish", [(0, 1)]), ("cut",)]):
            found = could_be(LAYOUT, (0, 0), events)
            found.clear()
            self.assertNotEqual(could_be(LAYOUT, (0, 0), events), [])

    def test_by_name(self):
        given = {"events": [("told", (1, 1))], "start": (0, 0), "layout": LAYOUT}
        self.assertEqual((could_be(**given), is_right(**given), first_wrong(**given)), ([], False, 0))


def given_up(sizes):
    """Wishes that are given up, so that each record may have so many contents."""
    events = []
    for record, size in enumerate(sizes):
        for content in range(1, size):
            events += [("wish", [(record, content)]), ("cut",)]
    return events


class Errors(unittest.TestCase):
    def test_invalid_told_is_first(self):
        many = given_up([3, 23, 29])
        for start in no_fillings() + [[0, 0], (0, 0), (0, 3, 0), (0, 0, 64), (0, False, 0)]:
            for events in ([], [("done",)], None, many):
                for call in (could_be, is_right, first_wrong):
                    with self.subTest(start), raises(self, InvalidTold, "given", start):
                        call(Layout(3, 1, 3), start, events)

    def test_invalid_events(self):
        wrong = [[event] for event in NO_EVENTS] + [[("done",)], [("wish", []), ("wish", [])], None, "cut", ("cut",)]
        for events in wrong:
            for call in (could_be, is_right, first_wrong):
                with self.subTest(events), raises(self, InvalidEvents, "given", events):
                    call(LAYOUT, (0, 0), events)

    def test_the_whole_list_is_judged_ahead_of_what_is_possible(self):
        for ahead in (given_up([3, 23, 29]), [("told", (1, 1, 1))]):
            events = ahead + [("done",)]
            for call in (could_be, is_right, first_wrong):
                with raises(self, InvalidEvents, "given", events):
                    call(Layout(3, 1, 64), (0, 0, 0), events)

    def test_2000_are_let(self):
        events = given_up([5, 5, 5, 4, 4])
        layout, start = Layout(6, 1, 64), (0,) * 6
        found = could_be(layout, start, events)
        self.assertEqual(found, list(product(*[range(size) for size in (5, 5, 5, 4, 4, 1)])))
        self.assertIs(is_right(layout, start, events), True)
        self.assertIsNone(first_wrong(layout, start, events + events))

    def test_2001_are_too_many(self):
        layout, start, events = Layout(3, 1, 64), (0, 0, 0), given_up([3, 23, 29])
        self.assertEqual(len(could_be(layout, start, events[:-1])), 3 * 23 * 28)
        for call in (could_be, is_right, first_wrong):
            with raises_too_many(self, 2001):
                call(layout, start, events)

    def test_as_soon_as_they_are_too_many(self):
        layout, start = Layout(6, 1, 64), (0,) * 6
        events = given_up([5, 5, 5, 4, 4, 2])
        for behind in ([], [("told", start)], [("told", (9,) * 6)], given_up([64, 64])):
            for call in (could_be, is_right, first_wrong):
                with raises_too_many(self, 4000):
                    call(layout, start, events + behind)
        # Where nothing is possible any more, nothing can be too many.
        wrong = [("told", (1,) * 6)] + events
        self.assertEqual((could_be(layout, start, wrong), first_wrong(layout, start, wrong)), ([], 0))

    def test_different_tuples_are_counted(self):
        layout, start = Layout(6, 1, 64), (0,) * 6
        events = given_up([5, 5, 5, 4, 4])
        self.assertEqual(len(could_be(layout, start, events + events[:200] + events)), 2000)


class Stores(unittest.TestCase):
    def history_of(self, model, seed, torn):
        """What a store goes through, and its drive at last."""
        numbers, wishes = fixed_numbers(seed), model.wishes()
        filling = tuple(next(numbers) % model.contents for _ in range(model.blocks))
        drive = Drive(model.disk, filling, torn=torn)
        store = Store(drive, model.layout)
        start, events = store.records(), []
        while len(events) < 300:
            at = next(numbers) % 12
            if at < 2:
                events.append(("told", store.records()))
            elif at == 2:
                lefts = drive.left()
                store.cut(lefts[next(numbers) % len(lefts)])
                events.append(("cut",))
            elif store.under_way() is None:
                wish = wishes[next(numbers) % len(wishes)]
                store.begin(wish)
                events.append(("wish", wish))
            elif store.step() == ("done",):
                events.append(("done",))
        return start, events

    def test_make_right_histories(self):
        triples = [(1, 1, 2), (2, 1, 2), (2, 2, 2), (2, 1, 3), (3, 2, 2), (3, 1, 4), (4, 2, 3)]
        for seed, (triple, torn) in enumerate(product(triples, (True, False))):
            model = Model(*triple)
            start, events = self.history_of(model, seed, torn)
            self.assertIs(is_history(model.layout, events), True)
            self.assertIs(is_right(model.layout, start, events), True)
            self.assertIsNone(first_wrong(model.layout, start, events))
            singles = 0
            for at, pair in enumerate(zip(events, events[1:])):
                if pair[0] == ("cut",) and pair[1][0] == "told":
                    self.assertEqual(could_be(model.layout, start, events[:at + 2]), [pair[1][1]])
                    singles += 1
            self.assertGreater(singles, 0)
