"""Disks, their fillings and lines, writes, and the two classes of contents."""

from leastspare.errors import InvalidBlock, InvalidBlocks, InvalidContent, InvalidContents
from leastspare.errors import InvalidFilling, InvalidNumber, InvalidWrite
from leastspare.figures import are_figures, figures_of, number_from, power
from leastspare.limits import LEAST_CONTENTS, MOST_BLOCKS, MOST_CONTENTS, check_listed, is_pair, is_within


class Disk:
    """A disk with so many blocks, each of which has one of so many contents."""

    def __init__(self, blocks, contents):
        if not is_within(blocks, 1, MOST_BLOCKS):
            raise InvalidBlocks(blocks)
        if not is_within(contents, LEAST_CONTENTS, MOST_CONTENTS):
            raise InvalidContents(contents)
        self.blocks = blocks
        self.contents = contents

    def __eq__(self, other):
        return isinstance(other, Disk) and self.blocks == other.blocks and self.contents == other.contents


def count(disk):
    """Return the number of the fillings of a disk."""
    return power(disk.contents, disk.blocks)


def is_block(disk, value):
    """Tell whether any value is a block of a disk."""
    return is_within(value, 0, disk.blocks - 1)


def is_content(disk, value):
    """Tell whether any value is one of the contents of a disk."""
    return is_within(value, 0, disk.contents - 1)


def is_filling(disk, value):
    """Tell whether any value is a filling of a disk."""
    return are_figures(value, disk.blocks, disk.contents)


def is_write(disk, value):
    """Tell whether any value is a write (block, content) of a disk."""
    return is_pair(value, disk.blocks, disk.contents)


def number_of(disk, filling):
    """Return the number of a filling; block 0 has its highest figure."""
    if not is_filling(disk, filling):
        raise InvalidFilling(filling)
    return number_from(filling, disk.contents)


def filling_at(disk, number):
    """Return the filling with this number."""
    if not is_within(number, 0, count(disk) - 1):
        raise InvalidNumber(number)
    return figures_of(number, disk.blocks, disk.contents)


def all_fillings(disk):
    """Return the ascending list of all fillings of a disk."""
    check_listed(count(disk))
    return [filling_at(disk, number) for number in range(count(disk))]


def line(disk, filling, block):
    """Return the ascending fillings of the line of a block through a filling."""
    if not is_filling(disk, filling):
        raise InvalidFilling(filling)
    if not is_block(disk, block):
        raise InvalidBlock(block)
    return [_with_content(filling, block, content) for content in range(disk.contents)]


def all_lines(disk):
    """Return the ascending list of all lines of a disk."""
    found = []
    for filling in all_fillings(disk):
        # A line is met at its least filling, which has 0 in the line's block. Of the lines
        # that begin there, the one of the last block goes on with the least filling.
        for block in reversed(range(disk.blocks)):
            if filling[block] == 0:
                found.append(line(disk, filling, block))
    return found


def written(disk, filling, write):
    """Return the filling behind a write (block, content)."""
    if not is_filling(disk, filling):
        raise InvalidFilling(filling)
    if not is_write(disk, write):
        raise InvalidWrite(write)
    block, content = write
    return _with_content(filling, block, content)


def class_of(disk, content):
    """Return 0 for a content of class A, and 1 for one of class B."""
    if not is_content(disk, content):
        raise InvalidContent(content)
    return 0 if content < disk.contents // 2 else 1


def _with_content(filling, block, content):
    return filling[:block] + (content,) + filling[block + 1:]
