"""Drives: disks with writes that are pending until a sync, and what a cut may leave of them."""

from leastspare.cuts import behind, choices_of, is_left, list_left, number_left
from leastspare.disks import is_block, is_content, is_filling
from leastspare.errors import InvalidBlock, InvalidContent, InvalidFilling, NotLeft
from leastspare.limits import check_listed


class Drive:
    """A disk with a filling and pending writes, torn or whole."""

    def __init__(self, disk, filling, *, torn=True):
        if not is_filling(disk, filling):
            raise InvalidFilling(filling)
        self.disk = disk
        self.torn = torn
        self._settled = filling
        self._pending = []

    def write(self, block, content):
        """Add a write to the pending ones."""
        if not is_block(self.disk, block):
            raise InvalidBlock(block)
        if not is_content(self.disk, content):
            raise InvalidContent(content)
        self._pending.append((block, content))

    def sync(self):
        """Do all pending writes in their order, and return how many they were."""
        done = len(self._pending)
        self._settle(self.filling())
        return done

    def pending(self):
        """Return the list of the pending writes, in the order in which they were made."""
        return list(self._pending)

    def settled(self):
        """Return the filling without the pending writes."""
        return self._settled

    def filling(self):
        """Return the filling that a sync would make now."""
        return behind(self._settled, self._pending)

    def left(self):
        """Return the ascending list of all fillings that a cut may leave now."""
        choices = self._choices()
        check_listed(number_left(choices))
        return list_left(choices)

    def may_leave(self, value):
        """Tell whether any value is a filling that a cut may leave now."""
        # The fillings are not listed here: they may be too many for left.
        if not is_filling(self.disk, value):
            return False
        return is_left(self._choices(), value)

    def cut(self, filling):
        """Cut the power, so that this filling is left."""
        if not is_filling(self.disk, filling):
            raise InvalidFilling(filling)
        if not self.may_leave(filling):
            raise NotLeft(filling)
        self._settle(filling)

    def _settle(self, filling):
        self._settled = filling
        self._pending = []

    def _choices(self):
        return choices_of(self.disk, self._settled, self._pending, self.torn)
