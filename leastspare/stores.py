"""Stores: the records of a layout on a drive, changed step by step."""

from leastspare.errors import Busy, InvalidWish, NoWish, OtherDisk
from leastspare.layouts import disk_of, is_wish
from leastspare.plans import plan, read


class Store:
    """A store that keeps the records of a layout on a drive."""

    def __init__(self, drive, layout):
        if drive.disk != disk_of(layout):
            raise OtherDisk(drive.disk)
        self._drive = drive
        self._layout = layout
        self._done = []
        self._wish = None
        self._steps = []

    def records(self):
        """Return what the records have now."""
        return read(self._layout, self._drive.filling())

    def answered(self):
        """Return the list of the wishes that this store has answered, in order."""
        return [list(wish) for wish in self._done]

    def under_way(self):
        """Return the wish that is under way, or None."""
        return None if self._wish is None else list(self._wish)

    def begin(self, wish):
        """Make a wish be under way."""
        if not is_wish(self._layout, wish):
            raise InvalidWish(wish)
        if self._wish is not None:
            raise Busy(self.under_way())
        self._steps = _steps_of(plan(self._layout, self._drive.filling(), wish))
        self._wish = list(wish)

    def step(self):
        """Do the next step of the wish under way, and return it."""
        if self._wish is None:
            raise NoWish()
        step = self._steps.pop(0)
        if step[0] == "write":
            self._drive.write(step[1], step[2])
        elif step[0] == "sync":
            self._drive.sync()
        else:
            self._done.append(self._wish)
            self._wish = None
        return step

    def change(self, wish):
        """Do a wish with all its steps, and return the number of its writes."""
        self.begin(wish)
        writes = 0
        while self._wish is not None:
            if self.step()[0] == "write":
                writes += 1
        return writes

    def cut(self, filling):
        """Cut the power, so that this filling is left; a wish under way is given up."""
        self._drive.cut(filling)
        self._wish = None


def _steps_of(groups):
    """Return the steps of a plan: a sync stands behind each group that is not empty."""
    steps = []
    for group in groups:
        steps.extend([("write", block, content) for block, content in group])
        if group:
            steps.append(("sync",))
    return steps + [("done",)]
