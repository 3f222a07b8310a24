"""What several tests need: odd values, listings in another way than the program's, and errors."""

from contextlib import contextmanager
from itertools import product

from leastspare.disks import Disk
from leastspare.drives import Drive
from leastspare.errors import TooMany
from leastspare.layouts import Layout, disk_of
from leastspare.stores import Store

# None of these is an integer, whatever is asked of it.
NO_INTEGERS = [None, True, False, "", "1", "a", (), (1,), (1, 2), [], [1], [1, 2], {}, {"a": 1}, 1.0, Disk(1, 2)]


def no_lists():
    """Values of every kind; none of them is a list or a tuple."""
    values = [None, True, False, "", "1", "ab", "wish", 0, 1, -1, 10 ** 60, 1.0, {}, {"a": (0, 0)}, {"a": [(0, 0)]}]
    layout = Layout(1, 1, 2)
    drive = Drive(disk_of(layout), (0, 0, 0))
    return values + [layout, disk_of(layout), drive, Store(drive, layout), TooMany(1)]


def no_fillings():
    """Values of every kind; none of them is a filling of any disk."""
    values = no_lists()
    values += [[], [0], [0, 0], [0, 0, 0], [(0, 0)], [[[[[[[[1]]]]]]]]]
    values += [(), (None,), ("0",), (True,), (False, 0), (0, True, 0), (-1, 0, 0), (0, 0, 64), (0,) * 25]
    values += [((0,),), ([0], [0]), ((0, 0), (0, 0)), ({}, 0), (0, 1.0, 0)]
    return values + [(Disk(2, 2), 0)]


def all_fillings(disk):
    """All fillings of a disk, ascending."""
    return list(product(range(disk.contents), repeat=disk.blocks))


def fixed_numbers(seed):
    """Numbers below 2 ** 16 that look like random ones, but are the same ones on every run."""
    state = seed
    while True:
        state = (state * 6364136223846793005 + 1442695040888963407) % 2 ** 64
        yield state >> 48


@contextmanager
def raises(test, kind, attribute, value):
    """The rows raise an error of just this class, whose attribute is this very object."""
    with test.assertRaises(kind) as caught:
        yield
    test.assertIs(type(caught.exception), kind)
    test.assertIs(getattr(caught.exception, attribute), value)


@contextmanager
def raises_equal(test, kind, attribute, value):
    """The rows raise an error of just this class, whose attribute is of this class, too, and equal."""
    with test.assertRaises(kind) as caught:
        yield
    test.assertIs(type(caught.exception), kind)
    found = getattr(caught.exception, attribute)
    test.assertIs(type(found), type(value))
    test.assertEqual(found, value)


def raises_too_many(test, number):
    """The rows raise TooMany with this number as its count."""
    return raises_equal(test, TooMany, "count", number)
