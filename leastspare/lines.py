"""Lines of a disk, by the numbers of their fillings."""

from leastspare.disks import count
from leastspare.figures import power


def line_at(disk, number, block):
    """Return the ascending numbers of the fillings of the line of a block through the filling with this number."""
    weight = power(disk.contents, disk.blocks - 1 - block)
    least = number - number // weight % disk.contents * weight
    return _steps_from(least, weight, disk)


def lines_of(disk):
    """Return all lines of a disk, each as the ascending list of the numbers of its fillings."""
    found = []
    for block in range(disk.blocks):
        weight = power(disk.contents, block)
        for high in range(0, count(disk), weight * disk.contents):
            found.extend([_steps_from(least, weight, disk) for least in range(high, high + weight)])
    return found


def kinds_on(row, entries):
    """Return the different entries that the fillings of a line have, by their numbers, each once."""
    return list({entries[number]: True for number in row})


def _steps_from(least, weight, disk):
    return list(range(least, least + weight * disk.contents, weight))
