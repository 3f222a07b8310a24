"""Points 22 to 25, and what points 2, 3, 8, 9 and 10 say of disks."""

import unittest
from itertools import product

from leastspare.disks import Disk, all_lines, class_of, count, filling_at, is_filling, line, number_of, written
from leastspare.drives import Drive
from leastspare.errors import InvalidBlock, InvalidBlocks, InvalidContent, InvalidContents, InvalidFilling
from leastspare.errors import InvalidNumber, InvalidWrite
from tests.support import NO_INTEGERS, all_fillings, no_fillings, raises, raises_too_many

SMALL = [(1, 2), (1, 5), (2, 2), (2, 3), (3, 2), (3, 4), (4, 2), (4, 3), (5, 2)]


def small_disks():
    return [Disk(blocks, contents) for blocks, contents in SMALL]


class Examples(unittest.TestCase):
    def test_of_the_interface(self):
        disk = Disk(3, 4)
        told = [count(disk), number_of(disk, (1, 0, 3)), filling_at(disk, 19), len(all_lines(disk))]
        self.assertEqual(told, [64, 19, (1, 0, 3), 48])
        self.assertEqual(line(disk, (1, 0, 3), 1), [(1, 0, 3), (1, 1, 3), (1, 2, 3), (1, 3, 3)])
        lines = [[(0, 0), (0, 1)], [(0, 0), (1, 0)], [(0, 1), (1, 1)], [(1, 0), (1, 1)]]
        self.assertEqual(all_lines(Disk(2, 2)), lines)
        told = [written(disk, (1, 0, 3), (2, 0)), class_of(disk, 1), class_of(disk, 2), class_of(Disk(1, 3), 1)]
        self.assertEqual(told, [(1, 0, 0), 0, 1, 1])
        with raises(self, InvalidBlock, "given", 3):
            line(disk, (1, 0, 3), 3)


class Disks(unittest.TestCase):
    def test_bounds(self):
        for blocks, contents in [(1, 2), (1, 64), (24, 2), (24, 64), (7, 9)]:
            disk = Disk(blocks, contents)
            self.assertEqual((disk.blocks, disk.contents), (blocks, contents))

    def test_all_numbers_of_blocks_and_contents(self):
        for blocks, contents in product(range(1, 25), range(2, 65)):
            self.assertEqual(Disk(blocks, contents).blocks, blocks)

    def test_one_beyond_the_bounds(self):
        for blocks in (0, 25, -1, -24, 10 ** 60):
            with raises(self, InvalidBlocks, "given", blocks):
                Disk(blocks, 2)
        for contents in (1, 65, 0, -2, 10 ** 60):
            with raises(self, InvalidContents, "given", contents):
                Disk(1, contents)

    def test_what_is_no_integer(self):
        for value in NO_INTEGERS:
            with self.subTest(value):
                with raises(self, InvalidBlocks, "given", value):
                    Disk(value, 2)
                with raises(self, InvalidContents, "given", value):
                    Disk(1, value)

    def test_blocks_are_judged_first(self):
        for blocks in (0, 25, True, None):
            for contents in (1, 65, False, "2"):
                with raises(self, InvalidBlocks, "given", blocks):
                    Disk(blocks, contents)
                with raises(self, InvalidBlocks, "given", blocks):
                    Disk(contents=contents, blocks=blocks)

    def test_by_name(self):
        disk = Disk(contents=5, blocks=3)
        self.assertEqual((disk.blocks, disk.contents), (3, 5))

    def test_equal_exactly_if_both_are(self):
        disks = [(blocks, contents) for blocks in (1, 2, 3, 24) for contents in (2, 3, 64)]
        for one, other in product(disks, disks):
            self.assertIs(Disk(*one) == Disk(*other), one == other)
            self.assertIs(Disk(*one) != Disk(*other), one != other)

    def test_unequal_to_all_else(self):
        disk = Disk(2, 3)
        for value in [None, True, 0, 2, 3, 9, "", (2, 3), [2, 3], {}, Drive(disk, (0, 0)), InvalidBlocks(2)]:
            self.assertIs(disk == value, False)
            self.assertIs(value == disk, False)
            self.assertIs(disk != value, True)

    def test_count(self):
        for disk in small_disks():
            self.assertEqual(count(disk), len(all_fillings(disk)))
        for blocks, contents in [(1, 64), (24, 2), (24, 64), (13, 7)]:
            self.assertEqual(count(Disk(blocks, contents)), contents ** blocks)
        self.assertEqual(count(disk=Disk(2, 9)), 81)


class Fillings(unittest.TestCase):
    def test_each_listed_one_is_one(self):
        for disk in small_disks():
            for filling in all_fillings(disk):
                self.assertIs(is_filling(disk, filling), True)
        self.assertIs(is_filling(Disk(24, 64), (63,) * 24), True)
        self.assertIs(is_filling(value=(1, 0), disk=Disk(2, 2)), True)

    def test_values_of_every_kind_are_none(self):
        for disk in small_disks() + [Disk(24, 64)]:
            for value in no_fillings():
                with self.subTest(value):
                    self.assertIs(is_filling(disk, value), False)

    def test_wrong_ones(self):
        disk = Disk(3, 4)
        wrong = [[1, 0, 3], (1, 0), (1, 0, 3, 0), (), (1, 0, 4), (4, 0, 3), (-1, 0, 3), (1, 0, -1), (1, True, 3)]
        wrong += [(1, False, 3), (1, None, 3), (1, "0", 3), (1, (0,), 3), (1, [0], 3), (1, 0.0, 3), "103", 19, None]
        for value in wrong:
            with self.subTest(value):
                self.assertIs(is_filling(disk, value), False)
                with raises(self, InvalidFilling, "given", value):
                    number_of(disk, value)
                with raises(self, InvalidFilling, "given", value):
                    line(disk, value, 0)
                with raises(self, InvalidFilling, "given", value):
                    written(disk, value, (0, 0))


class Numbers(unittest.TestCase):
    def test_there_and_back(self):
        for disk in small_disks():
            for number, filling in enumerate(all_fillings(disk)):
                self.assertEqual(number_of(disk, filling), number)
                self.assertEqual(filling_at(disk, number), filling)

    def test_there_and_back_on_the_greatest_disk(self):
        disk, many = Disk(24, 64), 64 ** 24
        for number in [0, 1, 63, 64, 4095, many // 2, many // 3, many - 65, many - 2, many - 1]:
            filling = filling_at(disk, number)
            self.assertIs(is_filling(disk, filling), True)
            self.assertEqual(number_of(disk, filling), number)
            self.assertEqual(filling[0], number // 64 ** 23)
        filling = tuple((5 * block + 3) % 64 for block in range(24))
        number = sum(content * 64 ** (23 - block) for block, content in enumerate(filling))
        self.assertEqual(number_of(disk, filling), number)
        self.assertEqual(filling_at(disk, number), filling)

    def test_the_ends_and_one_beyond(self):
        for disk in small_disks() + [Disk(24, 64), Disk(24, 2)]:
            many = disk.contents ** disk.blocks
            self.assertEqual(filling_at(disk, 0), (0,) * disk.blocks)
            self.assertEqual(filling_at(disk, many - 1), (disk.contents - 1,) * disk.blocks)
            for number in (-1, many, many + 1, -many):
                with raises(self, InvalidNumber, "given", number):
                    filling_at(disk, number)

    def test_what_is_no_integer(self):
        for value in NO_INTEGERS:
            with self.subTest(value), raises(self, InvalidNumber, "given", value):
                filling_at(Disk(3, 4), value)

    def test_by_name(self):
        self.assertEqual(number_of(filling=(1, 2), disk=Disk(2, 3)), 5)
        self.assertEqual(filling_at(number=5, disk=Disk(2, 3)), (1, 2))


def listed_line(disk, filling, block):
    return [other for other in all_fillings(disk)
            if all(other[at] == filling[at] for at in range(disk.blocks) if at != block)]


def listed_lines(disk):
    groups = {}
    for block in range(disk.blocks):
        for filling in all_fillings(disk):
            groups.setdefault((block, filling[:block], filling[block + 1:]), []).append(filling)
    return sorted(groups.values())


class Lines(unittest.TestCase):
    def test_against_a_listing(self):
        for disk in small_disks():
            for filling in all_fillings(disk):
                for block in range(disk.blocks):
                    self.assertEqual(line(disk, filling, block), listed_line(disk, filling, block))

    def test_by_name(self):
        self.assertEqual(line(block=0, filling=(1, 1), disk=Disk(2, 2)), [(0, 1), (1, 1)])

    def test_on_the_greatest_disk(self):
        row = line(Disk(24, 64), (9,) * 24, 23)
        self.assertEqual(row, [(9,) * 23 + (content,) for content in range(64)])

    def test_wrong_blocks(self):
        for disk in small_disks():
            for block in [-1, disk.blocks, disk.blocks + 1, -disk.blocks, *NO_INTEGERS]:
                with self.subTest(block), raises(self, InvalidBlock, "given", block):
                    line(disk, (1,) * disk.blocks, block)

    def test_the_filling_is_judged_first(self):
        with raises(self, InvalidFilling, "given", None):
            line(Disk(2, 2), None, 2)
        with raises(self, InvalidFilling, "given", None):
            line(block=2, filling=None, disk=Disk(2, 2))

    def test_the_list_may_be_changed(self):
        disk = Disk(2, 3)
        line(disk, (1, 2), 0).clear()
        self.assertEqual(line(disk, (1, 2), 0), [(0, 2), (1, 2), (2, 2)])


class AllLines(unittest.TestCase):
    def test_against_a_listing(self):
        for disk in small_disks():
            self.assertEqual(all_lines(disk), listed_lines(disk))
            self.assertEqual(len(all_lines(disk)), disk.blocks * disk.contents ** (disk.blocks - 1))
        self.assertEqual(all_lines(disk=Disk(1, 2)), [[(0,), (1,)]])

    def test_one_block_has_one_line(self):
        self.assertEqual(all_lines(Disk(1, 64)), [[(content,) for content in range(64)]])

    def test_below_the_limit(self):
        # More than 20000 lines, but not more fillings.
        self.assertEqual(all_lines(Disk(9, 3)), listed_lines(Disk(9, 3)))
        self.assertEqual(len(all_lines(Disk(14, 2))), 114688)
        self.assertEqual(len(all_lines(Disk(3, 27))), 2187)

    def test_above_the_limit(self):
        # The first one is the least number of fillings above 20000 that a disk has.
        for blocks, contents in [(4, 12), (3, 28), (15, 2), (10, 3), (24, 64), (24, 2)]:
            with raises_too_many(self, contents ** blocks):
                all_lines(Disk(blocks, contents))

    def test_the_lists_may_be_changed(self):
        disk = Disk(2, 3)
        found = all_lines(disk)
        self.assertEqual(len({id(row) for row in found}), len(found))
        for row in found:
            row.append((0, 0))
        found.clear()
        self.assertEqual(all_lines(disk), listed_lines(disk))


class Writes(unittest.TestCase):
    def test_every_write(self):
        for disk in small_disks():
            for filling in all_fillings(disk):
                for block, content in product(range(disk.blocks), range(disk.contents)):
                    other = list(filling)
                    other[block] = content
                    self.assertEqual(written(disk, filling, (block, content)), tuple(other))

    def test_of_the_content_that_the_block_has(self):
        self.assertEqual(written(Disk(3, 4), (1, 0, 3), (2, 3)), (1, 0, 3))
        self.assertEqual(written(Disk(24, 64), (63,) * 24, (0, 63)), (63,) * 24)

    def test_by_name(self):
        self.assertEqual(written(write=(0, 1), filling=(0, 0), disk=Disk(2, 2)), (1, 0))

    def test_wrong_writes(self):
        disk, filling = Disk(3, 4), (1, 0, 3)
        wrong = [[0, 1], [(0, 1)], (0,), (), (0, 1, 2), ((0, 1),), None, True, 0, "01", {}, {"a": 1}, Disk(3, 4)]
        wrong += [(3, 0), (-1, 0), (0, 4), (0, -1), (10 ** 60, 0), (0, 10 ** 60)]
        wrong += [(value, 0) for value in NO_INTEGERS] + [(0, value) for value in NO_INTEGERS]
        for write in wrong:
            with self.subTest(write), raises(self, InvalidWrite, "given", write):
                written(disk, filling, write)

    def test_the_filling_is_judged_first(self):
        wrong = [1, 0, 3]
        with raises(self, InvalidFilling, "given", wrong):
            written(Disk(3, 4), wrong, (3, 0))
        self.assertEqual(wrong, [1, 0, 3])


class Classes(unittest.TestCase):
    def test_of_even_and_odd_numbers_of_contents(self):
        self.assertEqual([class_of(Disk(1, 2), content) for content in range(2)], [0, 1])
        self.assertEqual([class_of(Disk(2, 3), content) for content in range(3)], [0, 1, 1])
        self.assertEqual([class_of(Disk(3, 6), content) for content in range(6)], [0, 0, 0, 1, 1, 1])
        self.assertEqual([class_of(Disk(1, 7), content) for content in range(7)], [0, 0, 0, 1, 1, 1, 1])

    def test_of_all_numbers_of_contents(self):
        for contents in range(2, 65):
            disk, half = Disk(1, contents), contents // 2
            classes = [class_of(disk, content) for content in range(contents)]
            self.assertEqual(classes, [0] * half + [1] * (contents - half))
            self.assertEqual(sorted(set(classes)), [0, 1])

    def test_are_integers(self):
        self.assertEqual([type(class_of(Disk(1, 2), content)) for content in range(2)], [int, int])

    def test_by_name(self):
        self.assertEqual(class_of(content=1, disk=Disk(1, 2)), 1)

    def test_wrong_contents(self):
        for disk in small_disks():
            for content in [-1, disk.contents, disk.contents + 1, 64, *NO_INTEGERS]:
                with self.subTest(content), raises(self, InvalidContent, "given", content):
                    class_of(disk, content)
