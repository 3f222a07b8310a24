"""Points 31 to 33, and what points 4, 8, 9 and 10 say of drives."""

import unittest
from itertools import permutations, product

from leastspare.disks import Disk
from leastspare.drives import Drive
from leastspare.errors import InvalidBlock, InvalidContent, InvalidFilling, NotLeft
from tests.support import NO_INTEGERS, all_fillings, no_fillings, raises, raises_too_many

# Rows of writes for a disk of three blocks with three contents, settled at (1, 0, 2): none, one, of the
# content that the block has, twice the same, several to one block, and to all blocks.
SETTLED = (1, 0, 2)
ROWS = [
    [], [(0, 2)], [(0, 1)], [(1, 2), (1, 2)], [(2, 0), (2, 1)], [(2, 1), (2, 2), (2, 1)], [(0, 0), (2, 0)],
    [(1, 1), (0, 1), (1, 0)], [(0, 2), (1, 1), (2, 0)], [(0, 0), (0, 2), (1, 1), (1, 2), (2, 2), (0, 1)],
]


def drive_with(writes, torn, settled=SETTLED, contents=3):
    drive = Drive(Disk(len(settled), contents), settled, torn=torn)
    for block, content in writes:
        drive.write(block, content)
    return drive


def listed_left(disk, settled, writes, torn):
    """What a cut may leave, by going through all fillings of the disk."""
    def is_left(block, content):
        made = [other for at, other in writes if at == block]
        if torn and made:
            return True
        return content == settled[block] or content in made
    return [filling for filling in all_fillings(disk)
            if all(is_left(block, content) for block, content in enumerate(filling))]


def state_of(drive):
    return drive.disk, drive.torn, drive.pending(), drive.settled(), drive.filling()


class Examples(unittest.TestCase):
    def test_of_the_interface(self):
        drive = Drive(Disk(3, 4), (1, 0, 3), torn=False)
        self.assertIsNone(drive.write(1, 2))
        self.assertIsNone(drive.write(1, 3))
        told = [drive.pending(), drive.settled(), drive.filling(), drive.left()]
        left = [(1, 0, 3), (1, 2, 3), (1, 3, 3)]
        self.assertEqual(told, [[(1, 2), (1, 3)], (1, 0, 3), (1, 3, 3), left])
        told = [drive.may_leave((1, 1, 3)), drive.may_leave((1, 2, 3)), drive.may_leave(None)]
        self.assertEqual(told, [False, True, False])
        self.assertIsNone(drive.cut((1, 2, 3)))
        self.assertEqual([drive.settled(), drive.pending(), drive.sync()], [(1, 2, 3), [], 0])
        filling = (1, 0, 3)
        with raises(self, NotLeft, "filling", filling):
            drive.cut(filling)


class Drives(unittest.TestCase):
    def test_a_new_one(self):
        for torn in (True, False):
            drive = Drive(Disk(3, 4), (1, 0, 3), torn=torn)
            self.assertEqual(drive.disk, Disk(3, 4))
            self.assertIs(drive.torn, torn)
            self.assertEqual(drive.pending(), [])
            self.assertEqual((drive.settled(), drive.filling()), ((1, 0, 3), (1, 0, 3)))
            self.assertEqual(drive.left(), [(1, 0, 3)])

    def test_torn_left_out(self):
        drive = Drive(Disk(1, 4), (1,))
        drive.write(0, 2)
        self.assertIs(drive.torn, True)
        self.assertEqual(drive.left(), [(0,), (1,), (2,), (3,)])

    def test_torn_is_passed_by_name_alone(self):
        with self.assertRaises(TypeError):
            Drive(Disk(1, 2), (0,), True)
        self.assertIs(Drive(torn=False, filling=(0,), disk=Disk(1, 2)).torn, False)

    def test_wrong_fillings(self):
        for value in no_fillings() + [(0, 0, 4), (0, 0), (0, 0, 0, 0), [1, 0, 3], (1, False, 3)]:
            with self.subTest(value), raises(self, InvalidFilling, "given", value):
                Drive(Disk(3, 4), value)

    def test_two_on_one_disk_know_nothing_of_one_another(self):
        disk = Disk(2, 2)
        one, other = Drive(disk, (0, 0)), Drive(disk, (0, 0))
        one.write(0, 1)
        self.assertEqual((one.pending(), other.pending()), ([(0, 1)], []))
        one.sync()
        self.assertEqual((one.settled(), other.settled()), ((1, 0), (0, 0)))
        self.assertEqual(disk, Disk(2, 2))


class Writes(unittest.TestCase):
    def test_are_pending_in_their_order(self):
        for torn in (True, False):
            for writes in ROWS:
                drive = drive_with(writes, torn)
                self.assertEqual(drive.pending(), writes)
                self.assertEqual(drive.settled(), SETTLED)

    def test_return_none(self):
        drive = drive_with([], True)
        self.assertIsNone(drive.write(0, 1))
        self.assertIsNone(drive.write(content=2, block=1))
        self.assertEqual(drive.pending(), [(0, 1), (1, 2)])

    def test_the_last_one_counts_in_the_filling(self):
        self.assertEqual(drive_with([(0, 2), (0, 0)], True).filling(), (0, 0, 2))
        self.assertEqual(drive_with([(0, 0), (0, 2)], True).filling(), (2, 0, 2))
        self.assertEqual(drive_with([(0, 0), (2, 1), (0, 1)], False).filling(), (1, 0, 1))

    def test_wrong_blocks(self):
        for block in [-1, 3, 4, 10 ** 60, *NO_INTEGERS]:
            drive = drive_with([(0, 2)], True)
            before = state_of(drive)
            with self.subTest(block), raises(self, InvalidBlock, "given", block):
                drive.write(block, 1)
            self.assertEqual(state_of(drive), before)

    def test_wrong_contents(self):
        for content in [-1, 3, 4, 10 ** 60, *NO_INTEGERS]:
            drive = drive_with([(0, 2)], False)
            before = state_of(drive)
            with self.subTest(content), raises(self, InvalidContent, "given", content):
                drive.write(1, content)
            self.assertEqual(state_of(drive), before)

    def test_the_block_is_judged_first(self):
        drive = drive_with([], True)
        with raises(self, InvalidBlock, "given", 3):
            drive.write(3, 3)
        with raises(self, InvalidBlock, "given", True):
            drive.write(content=None, block=True)

    def test_the_list_may_be_changed(self):
        drive = drive_with([(0, 2), (1, 1)], True)
        drive.pending().clear()
        drive.pending().append((2, 2))
        self.assertEqual(drive.pending(), [(0, 2), (1, 1)])
        self.assertEqual(drive.filling(), (2, 1, 2))


class Syncs(unittest.TestCase):
    def test_do_the_writes_and_tell_their_number(self):
        for torn in (True, False):
            for writes in ROWS:
                drive = drive_with(writes, torn)
                filling = list(SETTLED)
                for block, content in writes:
                    filling[block] = content
                self.assertEqual(drive.filling(), tuple(filling))
                self.assertEqual(drive.sync(), len(writes))
                self.assertEqual((drive.settled(), drive.filling()), (tuple(filling), tuple(filling)))
                self.assertEqual(drive.pending(), [])
                self.assertEqual(drive.sync(), 0)
                self.assertEqual(drive.settled(), tuple(filling))

    def test_the_same_write_twice_counts_twice(self):
        self.assertEqual(drive_with([(0, 2), (0, 2)], True).sync(), 2)
        self.assertEqual(drive_with([(0, 1), (0, 1), (0, 1)], False).sync(), 3)

    def test_many_writes(self):
        drive = Drive(Disk(24, 64), (0,) * 24, torn=False)
        for number in range(10000):
            drive.write(number % 24, number % 64)
        self.assertEqual(len(drive.pending()), 10000)
        self.assertEqual(drive.sync(), 10000)
        last = [max(number for number in range(9900, 10000) if number % 24 == block) for block in range(24)]
        self.assertEqual(drive.settled(), tuple(number % 64 for number in last))


class Left(unittest.TestCase):
    def test_against_a_listing(self):
        disk = Disk(3, 3)
        for torn in (True, False):
            for writes in ROWS:
                drive = drive_with(writes, torn)
                left = listed_left(disk, SETTLED, writes, torn)
                with self.subTest(torn=torn, writes=writes):
                    self.assertEqual(drive.left(), left)
                    may = [filling for filling in all_fillings(disk) if drive.may_leave(filling)]
                    self.assertEqual(may, left)
                self.assertEqual(drive.pending(), writes)

    def test_against_a_listing_on_a_disk_of_bits(self):
        disk, settled = Disk(4, 2), (0, 1, 1, 0)
        every = list(product(range(4), range(2)))
        for torn in (True, False):
            for one, other in product(every, every):
                drive = drive_with([one, other], torn, settled, 2)
                self.assertEqual(drive.left(), listed_left(disk, settled, [one, other], torn))

    def test_a_torn_write_of_what_is_there_may_leave_anything(self):
        self.assertEqual(drive_with([(1, 0)], True).left(), [(1, 0, 2), (1, 1, 2), (1, 2, 2)])
        self.assertEqual(drive_with([(1, 0)], False).left(), [(1, 0, 2)])

    def test_what_was_settled_earlier_is_not_left(self):
        drive = drive_with([(1, 1)], False)
        drive.sync()
        drive.write(1, 2)
        self.assertEqual(drive.left(), [(1, 1, 2), (1, 2, 2)])
        drive.cut((1, 2, 2))
        drive.write(1, 0)
        self.assertEqual(drive.left(), [(1, 0, 2), (1, 2, 2)])

    def test_is_ascending_for_great_contents_too(self):
        writes = [(0, 32), (0, 0), (1, 63), (0, 16), (1, 7), (0, 64 - 8)]
        for order in permutations(writes):
            left = drive_with(order, False, (8, 40), 64).left()
            self.assertEqual(left, list(product([0, 8, 16, 32, 56], [7, 40, 63])))

    def test_the_list_may_be_changed(self):
        drive = drive_with([(1, 0)], True)
        drive.left().clear()
        self.assertEqual(drive.left(), [(1, 0, 2), (1, 1, 2), (1, 2, 2)])
        self.assertEqual(drive.pending(), [(1, 0)])

    def test_changes_nothing(self):
        drive = drive_with([(0, 2), (1, 1)], True)
        before = state_of(drive)
        drive.left()
        drive.may_leave((2, 1, 2))
        self.assertEqual(state_of(drive), before)


class LeftLimit(unittest.TestCase):
    def whole_drive(self, sizes):
        """A whole drive on which so many contents may be left in each block."""
        drive = Drive(Disk(len(sizes), 64), (0,) * len(sizes), torn=False)
        for block, size in enumerate(sizes):
            for content in range(size):
                drive.write(block, content)
        return drive

    def test_whole_writes_at_the_limit(self):
        left = self.whole_drive([32, 25, 25]).left()
        self.assertEqual(left, list(product(range(32), range(25), range(25))))
        self.assertEqual(len(left), 20000)

    def test_whole_writes_just_above(self):
        # No count from 20001 to 20006 has factors of 64 at most alone.
        drive = self.whole_drive([19, 27, 39])
        before = state_of(drive)
        with raises_too_many(self, 20007):
            drive.left()
        self.assertEqual(state_of(drive), before)

    def test_different_fillings_are_counted(self):
        drive = self.whole_drive([32, 25, 25])
        for _ in range(3):
            drive.write(0, 0)
            drive.write(1, 24)
        self.assertEqual(len(drive.left()), 20000)
        self.assertEqual(drive.sync(), 88)

    def test_torn_writes_just_below(self):
        drive = Drive(Disk(24, 3), (1,) * 24)
        for block in range(9):
            drive.write(2 * block, 1)
        left = drive.left()
        self.assertEqual(len(left), 19683)
        ways = [range(3) if block % 2 == 0 and block < 18 else [1] for block in range(24)]
        self.assertEqual(left, list(product(*ways)))

    def test_torn_writes_above(self):
        drive = Drive(Disk(24, 12), (1,) * 24)
        for block in (0, 7, 8):
            drive.write(block, 1)
        self.assertEqual(len(drive.left()), 1728)
        drive.write(23, 0)
        with raises_too_many(self, 20736):
            drive.left()
        for block in range(24):
            drive.write(block, 0)
        with raises_too_many(self, 12 ** 24):
            drive.left()
        drive.sync()
        self.assertEqual(drive.left(), [(0,) * 24])

    def test_one_filling_of_a_great_disk(self):
        for torn in (True, False):
            self.assertEqual(Drive(Disk(24, 64), (63,) * 24, torn=torn).left(), [(63,) * 24])


class MayLeave(unittest.TestCase):
    def test_values_of_every_kind(self):
        for torn in (True, False):
            for writes in ROWS:
                drive = drive_with(writes, torn)
                for value in no_fillings() + [list(SETTLED), (1, 0), (1, 0, 2, 0), (1, 0, 3), (True, 0, 2)]:
                    with self.subTest(value):
                        self.assertIs(drive.may_leave(value), False)

    def test_tells_bools(self):
        drive = drive_with([(0, 2)], False)
        self.assertIs(drive.may_leave(SETTLED), True)
        self.assertIs(drive.may_leave(value=(2, 0, 2)), True)
        self.assertIs(drive.may_leave((0, 0, 2)), False)

    def test_where_left_has_too_many(self):
        for torn in (True, False):
            drive = Drive(Disk(24, 64), (0,) * 24, torn=torn)
            for block in range(23):
                drive.write(block, 7)
            self.assertIs(drive.may_leave((7,) * 23 + (0,)), True)
            self.assertIs(drive.may_leave((0, 7) * 11 + (0, 0)), True)
            self.assertIs(drive.may_leave((63,) * 23 + (0,)), torn)
            self.assertIs(drive.may_leave((7,) * 24), False)


class Cuts(unittest.TestCase):
    def test_to_each_filling(self):
        for torn in (True, False):
            for writes in ROWS:
                left = listed_left(Disk(3, 3), SETTLED, writes, torn)
                for filling in all_fillings(Disk(3, 3)):
                    drive = drive_with(writes, torn)
                    if filling in left:
                        self.assertIsNone(drive.cut(filling))
                        self.assertEqual(state_of(drive), (Disk(3, 3), torn, [], filling, filling))
                        continue
                    before = state_of(drive)
                    with raises(self, NotLeft, "filling", filling):
                        drive.cut(filling)
                    self.assertEqual(state_of(drive), before)

    def test_to_what_is_no_filling(self):
        for value in no_fillings() + [list(SETTLED), (1, 0), (1, 0, 2, 0), (1, 0, 3), (1, False, 2)]:
            drive = drive_with([(0, 2), (1, 1)], True)
            before = state_of(drive)
            with self.subTest(value), raises(self, InvalidFilling, "given", value):
                drive.cut(value)
            self.assertEqual(state_of(drive), before)

    def test_where_left_has_too_many(self):
        drive = Drive(Disk(24, 64), (0,) * 24)
        for block in range(23):
            drive.write(block, 7)
        with raises_too_many(self, 64 ** 23):
            drive.left()
        wrong = (1,) * 24
        with raises(self, NotLeft, "filling", wrong):
            drive.cut(wrong)
        filling = tuple(range(23)) + (0,)
        self.assertIsNone(drive.cut(filling=filling))
        self.assertEqual((drive.settled(), drive.pending()), (filling, []))

    def test_behind_a_sync_and_behind_a_cut_the_settled_filling_alone_is_left(self):
        for torn in (True, False):
            for writes in ROWS:
                drive = drive_with(writes, torn)
                drive.sync()
                self.assertEqual(drive.left(), [drive.settled()])
                drive = drive_with(writes, torn)
                drive.cut(drive.left()[-1])
                self.assertEqual(drive.left(), [drive.settled()])
                may = [filling for filling in all_fillings(Disk(3, 3)) if drive.may_leave(filling)]
                self.assertEqual(may, [drive.settled()])

    def test_the_drive_goes_on_behind_a_cut(self):
        drive = drive_with([(0, 2)], True)
        drive.cut((0, 0, 2))
        drive.write(2, 1)
        self.assertEqual((drive.pending(), drive.filling()), ([(2, 1)], (0, 0, 1)))
        self.assertEqual(drive.sync(), 1)
        self.assertEqual(drive.settled(), (0, 0, 1))


class Orders(unittest.TestCase):
    def test_what_is_left_does_not_hang_on_the_order(self):
        disk = Disk(3, 3)
        for torn in (True, False):
            for writes in ROWS:
                left = drive_with(writes, torn).left()
                for other in permutations(writes):
                    drive = drive_with(other, torn)
                    self.assertEqual(drive.left(), left)
                    may = [filling for filling in all_fillings(disk) if drive.may_leave(filling)]
                    self.assertEqual(may, left)
