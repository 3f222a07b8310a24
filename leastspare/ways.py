"""The shortest ways from fillings of one value to fillings of another one."""

from leastspare.lines import line_at


def writes_toward(disk, kept, one, other, torn):
    """Return the dict that has for each filling of value `one` the next write of a shortest way to `other`.

    `kept` has for each filling the value, or None where no way may go; a filling without a way is left out.
    """
    found = {}
    gone = {}
    ahead = [number for number, value in enumerate(kept) if value == other]
    while ahead:
        further = []
        for number in ahead:
            for block, row in _new_lines(disk, gone, number):
                if is_open(kept, row, one, other, torn):
                    write = (block, row.index(number))
                    begun = [near for near in row if kept[near] == one and near not in found]
                    found.update({near: write for near in begun})
                    further.extend(begun)
        ahead = further
    return found


def is_open(kept, row, one, other, torn):
    """Tell whether a way may go along this line: if writes are torn, a cut may leave any filling of it."""
    return torn is not True or all([kept[number] in (one, other) for number in row])


def _new_lines(disk, gone, number):
    """Return the tuples (block, line) of the lines through a filling that were not gone along, and note them."""
    rows = [(block, line_at(disk, number, block)) for block in range(disk.blocks)]
    found = [(block, row) for block, row in rows if (block, row[0]) not in gone]
    gone.update({(block, row[0]): True for block, row in found})
    return found
