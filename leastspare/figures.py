"""Numbers and their figures to a base."""

from leastspare.limits import is_within


def power(base, exponent):
    """Return a base multiplied with itself so many times."""
    found = 1
    for _ in range(exponent):
        found = found * base
    return found


def are_figures(value, length, base):
    """Tell whether any value is a tuple of so many figures to a base."""
    if not isinstance(value, tuple) or len(value) != length:
        return False
    return all([is_within(figure, 0, base - 1) for figure in value])


def number_from(figures, base):
    """Return the number that has these figures, the highest one first."""
    number = 0
    for figure in figures:
        number = number * base + figure
    return number


def figures_of(number, length, base):
    """Return so many figures of a number, the highest one first."""
    figures = []
    rest = number
    for _ in range(length):
        rest, figure = divmod(rest, base)
        figures.append(figure)
    return tuple(figures[::-1])
