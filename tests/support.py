"""What several tests need: odd values, listings in another way than the program's, and errors."""

from contextlib import contextmanager
from itertools import product

from leastspare.disks import Disk
from leastspare.drives import Drive
from leastspare.errors import TooMany

# None of these is an integer, whatever is asked of it.
NO_INTEGERS = [None, True, False, "", "1", "a", (), (1,), (1, 2), [], [1], [1, 2], {}, {"a": 1}, 1.0, Disk(1, 2)]


def no_fillings():
    """Values of every kind; none of them is a filling of any disk."""
    values = [None, True, False, "", "1", "ab", 0, 1, -1, 10 ** 60, {}, {"a": (0, 0, 0)}]
    values += [[], [0], [0, 0], [0, 0, 0], [(0, 0)], [[[[[[[[1]]]]]]]]]
    values += [(), (None,), ("0",), (True,), (False, 0), (0, True, 0), (-1, 0, 0), (0, 0, 64), (0,) * 25]
    values += [((0,),), ([0], [0]), ((0, 0), (0, 0)), ({}, 0), (0, 1.0, 0)]
    values += [Disk(2, 2), Drive(Disk(1, 2), (0,)), TooMany(1), (Disk(2, 2), 0)]
    return values


def all_fillings(disk):
    """All fillings of a disk, ascending."""
    return list(product(range(disk.contents), repeat=disk.blocks))


@contextmanager
def raises(test, kind, attribute, value):
    """The rows raise an error of just this class, whose attribute is this very object."""
    with test.assertRaises(kind) as caught:
        yield
    test.assertIs(type(caught.exception), kind)
    test.assertIs(getattr(caught.exception, attribute), value)


@contextmanager
def raises_too_many(test, number):
    """The rows raise TooMany with this number as its count."""
    with test.assertRaises(TooMany) as caught:
        yield
    test.assertIs(type(caught.exception.count), int)
    test.assertEqual(caught.exception.count, number)
