"""A desk to keep a disk of a layout by its plans, and to break it by hand."""

from leastspare.cuts import behind_all
from leastspare.disks import count, filling_at, number_of
from leastspare.errors import InvalidGroups, InvalidWish, NotLeft, NothingToRedo, NothingToUndo, NoWay
from leastspare.examiner import first_other, is_done_by, is_row_of_groups, may_leave
from leastspare.layouts import disk_of, is_wish, with_wish
from leastspare.limits import is_within
from leastspare.plans import plan, read


class Desk:
    """A disk of a layout, and deeds: wishes, cuts within them, and wishes by handed groups of writes."""

    def __init__(self, layout, *, torn=True):
        self._layout = layout
        self._disk = disk_of(layout)
        self._torn = torn
        # For each deed that is not undone its tuple, and ahead of all and behind each the filling and what is due.
        self._done = []
        self._states = [((0,) * self._disk.blocks, (0,) * layout.records)]
        # The tuples (deed, state) that were undone, the last one at the end.
        self._undone = []

    def filling(self):
        """Return the filling of the disk."""
        return self._states[-1][0]

    def told(self):
        """Return what the records have by the filling."""
        return read(self._layout, self.filling())

    def due(self):
        """Return what the records should have."""
        return self._states[-1][1]

    def is_broken(self):
        """Tell whether the records have something else than they should."""
        return self.told() != self.due()

    def wish(self, wish):
        """Do a wish whole."""
        self._check(wish)
        last = behind_all(self.filling(), plan(self._layout, self.filling(), wish))
        self._add(("wish", list(wish)), last, with_wish(self.due(), wish))

    def cut_in(self, wish, number):
        """Begin a wish, and cut the power within its plan, so that the filling with this number is left."""
        self._check(wish)
        left = self._left(plan(self._layout, self.filling(), wish), number)
        self._add(("cut_in", list(wish), number), left, read(self._layout, left))

    def by_hand(self, wish, groups, number):
        """Do a wish by these groups, and cut the power within them, so that the filling with this number is left."""
        self._check(wish)
        if not is_row_of_groups(self._disk, groups):
            raise InvalidGroups(groups)
        left = self._left(groups, number)
        told = read(self._layout, left)
        due = told if told == with_wish(self.due(), wish) else self.due()
        self._add(("by_hand", list(wish), [list(group) for group in groups], number), left, due)

    def undo(self):
        """Bring back what was ahead of the last deed that is not undone."""
        if len(self._done) == 0:
            raise NothingToUndo()
        self._undone.append((self._done.pop(), self._states.pop()))

    def redo(self):
        """Do the deed again that was undone last."""
        if len(self._undone) == 0:
            raise NothingToRedo()
        deed, state = self._undone.pop()
        self._done.append(deed)
        self._states.append(state)

    def deeds(self):
        """Return the list of the deeds that are not undone, in order."""
        return [_copy_of(deed) for deed in self._done]

    def hint(self, wish, groups):
        """Return None if these groups would do the wish, a number that breaks the desk by them, or -1 if none does."""
        self._check_whole()
        other = first_other(self._layout, self.filling(), wish, groups, torn=self._torn)
        if other is not None:
            return number_of(self._disk, other)
        return None if is_done_by(self._layout, self.filling(), wish, groups, torn=self._torn) else -1

    def _check_whole(self):
        if self.is_broken():
            raise NoWay((self.due(), self.told()))

    def _check(self, wish):
        self._check_whole()
        if not is_wish(self._layout, wish):
            raise InvalidWish(wish)

    def _left(self, groups, number):
        """Return the filling with this number if a cut may leave it during these groups."""
        if not is_within(number, 0, count(self._disk) - 1):
            raise NotLeft(number)
        left = filling_at(self._disk, number)
        if not may_leave(self._disk, self.filling(), groups, left, self._torn):
            raise NotLeft(number)
        return left

    def _add(self, deed, filling, due):
        self._done.append(deed)
        self._states.append((filling, due))
        self._undone = []


def _copy_of(deed):
    """Return a deed with new lists."""
    word, wish = deed[0], list(deed[1])
    if word == "by_hand":
        return (word, wish, [list(group) for group in deed[2]], deed[3])
    return (word, wish) + deed[2:]
