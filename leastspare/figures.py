"""Numbers and their figures to a base."""

from leastspare.limits import is_within


def power(base, exponent):
    """Return a base multiplied with itself so many times."""
    found = 1
    for _ in range(exponent):
        found = found * base
    return found


def are_figures(value, length, base):
    """Tell whether any value is a tuple of so many figures to a base."""
    if not isinstance(value, tuple) or len(value) != length:
        return False
    return all([is_within(figure, 0, base - 1) for figure in value])


def number_from(figures, base):
    """Return the number that has these figures, the highest one first."""
    number = 0
    for figure in figures:
        number = number * base + figure
    return number


def figures_of(number, length, base):
    """Return so many figures of a number, the highest one first."""
    figures = []
    rest = number
    for _ in range(length):
        rest, figure = divmod(rest, base)
        figures.append(figure)
    return tuple(figures[::-1])


def figures_needed(many, base):
    """Return the least number of figures to a base that tell so many things apart."""
    figures = 0
    told = 1
    while told < many:
        figures += 1
        told = told * base
    return figures


def count_differing(length, most, base):
    """Return how many tuples of so many figures to a base differ from a given one in one to `most` of them."""
    found = 0
    ways = 1
    for many in range(1, most + 1):
        # Of each set of places there is one more place to choose; each set is met once for each of its places.
        ways = ways * (length - many + 1) * (base - 1) // many
        found = found + ways
    return found
