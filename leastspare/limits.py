"""The limits that several modules share, and how a value is tested against them."""

from leastspare.errors import TooMany

MOST_BLOCKS = 24
LEAST_CONTENTS = 2
MOST_CONTENTS = 64
MOST_VALUES = 64
MOST_LISTED = 20000


def is_within(value, low, high):
    """Tell whether a value is an integer from low to high."""
    # True and False are of class int, too, but no integers here.
    return isinstance(value, int) and not isinstance(value, bool) and low <= value <= high


def is_pair(value, ones, others):
    """Tell whether any value is a tuple of two integers, one of so many ones and one of so many others."""
    if not isinstance(value, tuple) or len(value) != 2:
        return False
    return is_within(value[0], 0, ones - 1) and is_within(value[1], 0, others - 1)


def is_list(value):
    """Tell whether a value may stand where a list is expected: a tuple may, too."""
    return isinstance(value, (list, tuple))


def are_entries(value, length):
    """Tell whether any value is a list of so many items, each None or one of the values that there may be."""
    if not is_list(value) or len(value) != length:
        return False
    return all([entry is None or is_within(entry, 0, MOST_VALUES - 1) for entry in value])


def is_ascending(numbers):
    """Tell whether each of these integers is greater than the one ahead of it."""
    return all([one < other for one, other in zip(numbers, numbers[1:])])


def check_listed(number):
    """Raise TooMany for a number of fillings or wishes that is too great to list them."""
    if number > MOST_LISTED:
        raise TooMany(number)
