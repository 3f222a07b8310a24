"""What points 8 and 9 say over the whole program, with an ordinary call of each function of the interface."""

import importlib
import inspect
import unittest
from copy import deepcopy

from leastspare.books import Book, any_to_any, ring, star
from leastspare.disks import Disk
from leastspare.layouts import Layout
from leastspare.tables import Table
from leastspare.webs import Web
from leastspare.writers import Writer
from tests.test_interface import FUNCTIONS

DISK, LAYOUT, LOTS = Disk(2, 3), Layout(2, 2, 3), Layout(4, 2, 2)
FILLING = (1, 2, 0, 1, 2)
BOOK, TWO, ONE = any_to_any(3), Table(Disk(2, 2), [0, 0, 1, 2]), Table(Disk(1, 3), [0, 1, 2])
EVENTS = [("wish", [(0, 1)]), ("told", (1, 0)), ("cut",), ("wish", [(1, 2)]), ("done",), ("told", (1, 2))]
GROUPS = [[(0, 1), (1, 1)], [(0, 2)]]
RULES = [[[None if now == wished else (0, wished, 0)] for wished in range(3)] for now in range(3)]
WRITER, RUN = Writer(Disk(1, 3), 3, 1, RULES), [("wish", 1), ("write", 0, 1), ("done",)]
WEB, ORDER = Web(5, [(0, 1), (1, 2), (2, 3), (3, 4), (0, 4)]), [0, 1, 2, 3, 4]
SESSION = [["a", "b"], 2, 3, ["set b 2", "begin a 1", "step", "left", "cut 88", "show", "begin b 0", "rest", "show a"]]

# For each function the arguments of a call, and the kind of what it returns.
CALLS = {
    "count": ([DISK], int), "is_filling": ([DISK, (0, 1)], bool), "number_of": ([DISK, (1, 2)], int),
    "filling_at": ([DISK, 5], tuple), "line": ([DISK, (1, 2), 0], list), "all_lines": ([DISK], list),
    "written": ([DISK, (1, 2), (0, 0)], tuple), "class_of": ([DISK, 1], int),
    "disk_of": ([LAYOUT], Disk), "roles": ([LAYOUT], tuple), "is_told": ([LAYOUT, (0, 1)], bool),
    "is_wish": ([LAYOUT, [(0, 1), (1, 2)]], bool), "granted": ([LAYOUT, (0, 0), [(0, 1)]], tuple),
    "distance": ([LAYOUT, (0, 0), (1, 0)], int), "wish_between": ([LAYOUT, (0, 0), (1, 2)], list),
    "all_wishes": ([LAYOUT, (0, 1)], list),
    "is_lot": ([LOTS, [1, 3]], bool), "lots": ([LOTS], int), "lot_at": ([LOTS, 2], list),
    "lot_number": ([LOTS, [1, 3]], int), "code_of": ([LOTS, [1, 3]], tuple), "lot_told": ([LOTS, (1, 0, 0)], list),
    "lot_for": ([LOTS, [(2, 1)]], list), "read": ([LAYOUT, FILLING], tuple),
    "plan": ([LAYOUT, FILLING, [(0, 1)]], list),
    "is_history": ([LAYOUT, EVENTS], bool), "could_be": ([LAYOUT, (0, 0), EVENTS], list),
    "is_right": ([LAYOUT, (0, 0), EVENTS], bool), "first_wrong": ([LAYOUT, (2, 2), EVENTS], int),
    "left_by": ([DISK, (0, 0), GROUPS], list), "examine": ([LAYOUT, FILLING, [(0, 1)]], tuple),
    "first_other": ([LAYOUT, FILLING, [(1, 1)], [[(2, 1), (3, 2)]]], tuple),
    "is_done_by": ([LAYOUT, FILLING, [(1, 1)], GROUPS], bool),
    "wishes_of": ([BOOK, 0], list), "is_two_way": ([BOOK], bool), "parts": ([Book(4, [(0, 2)])], list),
    "any_to_any": ([4], Book), "star": ([4], Book), "ring": ([4], Book), "row": ([4], Book),
    "value_at": ([TWO, (1, 0)], int), "book_of": ([Layout(1, 1, 3)], Book), "table_of": ([Layout(1, 1, 3)], Table),
    "safe": ([TWO, BOOK], list), "keeps": ([TWO, BOOK], bool), "struck": ([ONE, BOOK], list),
    "refutation": ([ONE, BOOK], list), "is_refutation": ([ONE, BOOK, [((1, 2), [1])]], bool),
    "way": ([TWO, BOOK, 0, 2], list), "is_way": ([TWO, BOOK, 0, 2, [(1, 1), (0, 1)]], bool),
    "is_run": ([ONE, BOOK, WRITER, 0, RUN], bool), "breaks": ([ONE, BOOK, WRITER, 0, RUN[:1] + [("cut", 2)]], bool),
    "breaking_run": ([ONE, BOOK, WRITER, 0], list), "writer_for": ([TWO, BOOK], Writer),
    "wishes": ([3, 2, 4], int), "least_needed": ([3, 2, 4], int), "enough": ([3, 2, 4], int),
    "is_above": ([3, 2, 4], bool), "line_count": ([DISK], int), "most_values": ([DISK], int),
    "pair_lines": ([TWO, BOOK], dict), "own_lines": ([TWO], int),
    "shape_of": ([star(3)], tuple), "two_blocks": ([ring(4), 3], Table), "tables_of_two": (["row", 3], int),
    "copies_table": ([1, 3], Table), "greatest_any": ([3, 5], int), "any_table": ([2, 3], Table),
    "by_classes": ([TWO, 3], Table),
    "web_of": ([DISK], Web), "homes": ([WEB, [0, 0, 1, None, 2]], list),
    "safe_homes": ([WEB, [0, 0, 1, 1, 2], BOOK], list), "web_keeps": ([WEB, [0, 0, 1, 1, 2], BOOK], bool),
    "web_rings": ([WEB], int), "book_rings": ([BOOK], int), "ring_values": ([WEB, ORDER, 3], list), "ball": ([], Web),
    "ball_values": ([], list), "play": (SESSION, list), "history_of": (SESSION, list),
}


def functions():
    """Each function of the interface with its name."""
    for module, texts in FUNCTIONS.items():
        for text in texts.split():
            name = text.partition("(")[0]
            yield name, getattr(importlib.import_module(module), name)


def holders(value):
    """All lists and dicts within a value, once for each place."""
    found = []
    if isinstance(value, (list, dict)):
        found.append(value)
    if isinstance(value, (list, tuple, dict)):
        for item in value.values() if isinstance(value, dict) else value:
            found += holders(item)
    return found


def with_tuples(value):
    """The value with a tuple in the place of each list."""
    return tuple([with_tuples(item) for item in value]) if isinstance(value, (list, tuple)) else value


class EachFunction(unittest.TestCase):
    def test_has_a_call_here(self):
        names = [name for name, _ in functions()]
        self.assertEqual(sorted(names), sorted(CALLS))

    def test_returns_what_the_interface_lists(self):
        for name, function in functions():
            given, kind = CALLS[name]
            with self.subTest(name):
                self.assertIs(type(function(*given)), kind)

    def test_by_position_and_by_name(self):
        for name, function in functions():
            given, _ = CALLS[name]
            places = inspect.signature(function).parameters
            by_name = dict(zip(list(places), given))
            with self.subTest(name):
                expected = function(*given)
                self.assertEqual(function(**by_name), expected)
                self.assertEqual(function(**dict(list(by_name.items())[::-1])), expected)
                if "torn" in places:
                    self.assertEqual(function(*given, torn=True), expected)
                    with self.assertRaises(TypeError):
                        function(*given, True)

    def test_arguments_stay(self):
        for name, function in functions():
            given, _ = CALLS[name]
            before = deepcopy(given)
            with self.subTest(name):
                function(*given)
                self.assertEqual(given, before)

    def test_a_tuple_in_the_place_of_each_list(self):
        for name, function in functions():
            given, _ = CALLS[name]
            with self.subTest(name):
                self.assertEqual(function(*[with_tuples(value) for value in given]), function(*given))

    def test_lists_and_dicts_are_new_on_each_call(self):
        many = 0
        for name, function in functions():
            given, _ = CALLS[name]
            with self.subTest(name):
                first, other = function(*given), function(*given)
                made = holders(first) + holders(other) + holders(given)
                self.assertEqual(len({id(holder) for holder in made}), len(made))
                expected = deepcopy(other)
                for holder in holders(first):
                    holder.clear()
                    many += 1
                self.assertEqual(function(*given), expected)
                self.assertEqual(other, expected)
        self.assertGreater(many, 50)

    def test_equal_answers_for_equal_arguments(self):
        for name, function in functions():
            given, _ = CALLS[name]
            with self.subTest(name):
                self.assertEqual(function(*deepcopy(given)), function(*given))


class EachClass(unittest.TestCase):
    def test_objects_of_different_classes_are_not_equal(self):
        # Those that have the same numbers among them.
        objects = [Disk(2, 2), Layout(2, 2, 2), Book(2, []), Web(2, []), Table(Disk(1, 2), [0, 0]),
                   Writer(Disk(1, 2), 1, 1, [[[None]]] * 2)]
        for at, one in enumerate(objects):
            for place, other in enumerate(objects):
                self.assertIs(one == other, at == place)
                self.assertIs(one != other, at != place)
                self.assertIs(one == deepcopy(other), at == place)

    def test_by_name(self):
        self.assertEqual(Disk(contents=3, blocks=2), DISK)
        self.assertEqual(Layout(contents=3, changes=2, records=2), LAYOUT)
        self.assertEqual(Book(changes=[(0, 1)], size=2), Book(2, [(0, 1)]))
        self.assertEqual(Table(entries=[0, 1, 2], disk=Disk(1, 3)), ONE)
        self.assertEqual(Writer(rules=RULES, memories=1, size=3, disk=Disk(1, 3)), WRITER)
        self.assertEqual(Web(steps=[(0, 1)], states=2), Web(2, [(0, 1)]))
