"""Two blocks: which books a table of them keeps, these tables, and how many there are."""

from leastspare.books import is_two_way, parts, wishes_of
from leastspare.disks import Disk, all_fillings, class_of
from leastspare.errors import InvalidState, NotKept
from leastspare.figures import power
from leastspare.tables import Table


def shape_of(book):
    """Return the shape of a book that hangs together, or None if no two blocks keep it."""
    if not is_two_way(book):
        raise NotKept("changes")
    if book.size == 1 or len(parts(book)) > 1:
        raise NotKept("parts")
    near = [wishes_of(book, value) for value in range(book.size)]
    if len(book.changes) == 2 * (book.size - 1):
        return _star_of(near) or _row_of(near)
    if book.size == 3:
        return ("triangle", [0, 1, 2])
    return _ring_of(near)


def two_blocks(book, contents):
    """Return the Table of two blocks that keeps a book."""
    disk = Disk(2, contents)
    shape = shape_of(book)
    if shape is None or shape[0] == "star" and len(shape[2]) > contents:
        raise NotKept("shape")
    return Table(disk, [_value_by(disk, shape, filling) for filling in all_fillings(disk)])


def tables_of_two(shape, contents):
    """Return the number of the tables of two blocks that keep one book of this shape."""
    if shape not in ("triangle", "row", "ring"):
        raise InvalidState(shape)
    disk = Disk(2, contents)
    # A block's contents fall into two classes, neither of them empty.
    classes = power(2, disk.contents) - 2
    return (6 if shape == "triangle" else 2) * classes * classes


def _star_of(near):
    """Return the star of values that have no ring among them, or None."""
    for hub, leaves in enumerate(near):
        if len(leaves) == len(near) - 1:
            return ("star", hub, leaves)
    return None


def _row_of(near):
    """Return the row of values that have no ring among them and make no star, or None if they are not four."""
    if len(near) != 4:
        return None
    end = min([value for value, others in enumerate(near) if len(others) == 1])
    return ("row", _from(near, end, near[end][0]))


def _ring_of(near):
    """Return the ring of values that have rings among them, or None if they are not four in a ring."""
    if len(near) != 4 or not all([len(others) == 2 for others in near]):
        return None
    return ("ring", _from(near, 0, near[0][0]))


def _from(near, first, second):
    """Return four values, each beside the one ahead of it."""
    found = [first, second]
    for _ in range(2):
        found.extend([value for value in near[found[-1]] if value != found[-2]])
    return found


def _value_by(disk, shape, filling):
    """Return the value that the Table for a shape tells for a filling."""
    if shape[0] == "star":
        return _value_by_star(shape[1], shape[2], filling)
    row, column = [class_of(disk, content) for content in filling]
    if shape[0] == "triangle":
        return shape[1][row * (1 + column)]
    # Around the classes of both blocks, so that only one of them changes from each value to the next one.
    return shape[1][(0, 1, 3, 2)[2 * row + column]]


def _value_by_star(hub, leaves, filling):
    row, column = filling
    return leaves[row] if column > 0 and row < len(leaves) else hub
