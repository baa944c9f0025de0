"""Point [12]: a disk that can lose its power at any operation."""

import random
import unittest

from models import SlowDisk
from sameanswer.disk import Disk
from sameanswer.errors import InvalidArgument, PowerOff

ZEROS = [0] * 256


def sector(number):
    """A sector that differs from those of other numbers."""
    return [number & 255, number >> 8] + [(number + at) & 255 for at in range(254)]


class DiskTest(unittest.TestCase):
    def has(self, disk, told):
        """The sectors in the dict are read as these numbers' sectors (None for zeros)."""
        for index, number in told.items():
            self.assertEqual(disk.read(index), ZEROS if number is None else sector(number), index)

    def off(self, disk):
        """Power is off, and each operation says so and changes nothing."""
        self.assertFalse(disk.is_on())
        before = disk.pending(), disk.counts(), disk.losses(), disk.read(5), disk.in_use
        for _ in range(2):
            with self.assertRaises(PowerOff):
                disk.write(5, sector(999))
            with self.assertRaises(PowerOff):
                disk.sync()
            for operations in (0, 1, 100):
                with self.assertRaises(PowerOff):
                    disk.fail_after(operations)
        self.assertFalse(disk.is_on())
        self.assertEqual((disk.pending(), disk.counts(), disk.losses(), disk.read(5), disk.in_use), before)


class Sizes(DiskTest):
    def test_each_size_from_100_to_600(self):
        for sectors in range(100, 601):
            disk = Disk(sectors)
            self.assertEqual(disk.size(), sectors)
            self.assertEqual((disk.read(0), disk.read(sectors - 1)), (ZEROS, ZEROS))

    def test_what_is_no_size(self):
        for wrong in (
            99, 601, 0, -100, -1, 1, 10 ** 9, True, False, None, "", "100", "200", 100.0, 200.5, [], [200], (200,), {},
            b"200", 2 + 0j, {200: 1}, range(200), float("inf"), float("nan"),
        ):
            with self.assertRaises(InvalidArgument):
                Disk(wrong)

    def test_a_new_disk(self):
        disk = Disk(137)
        for index in range(137):
            self.assertEqual(disk.read(index), ZEROS)
        self.assertEqual((disk.pending(), disk.counts(), disk.losses()), (0, (0, 0), 0))
        self.assertIs(disk.is_on(), True)
        self.assertIs(disk.in_use, False)


class ReadAndWrite(DiskTest):
    def test_a_write_waits_until_the_next_sync(self):
        disk = Disk(100)
        disk.write(7, sector(1))
        self.assertEqual((disk.pending(), disk.counts()), (1, (1, 0)))
        self.has(disk, {6: None, 7: 1, 8: None})
        disk.write(99, sector(2))
        disk.write(0, sector(3))
        self.assertEqual((disk.pending(), disk.counts()), (3, (3, 0)))
        self.has(disk, {7: 1, 99: 2, 0: 3})
        disk.sync()
        self.assertEqual((disk.pending(), disk.counts()), (0, (3, 1)))
        self.has(disk, {7: 1, 99: 2, 0: 3, 1: None})

    def test_the_last_write_counts(self):
        disk = Disk(100)
        for number in (1, 2, 3):
            disk.write(7, sector(number))
            self.has(disk, {7: number})
        self.assertEqual(disk.pending(), 3)
        disk.sync()
        self.has(disk, {7: 3})
        disk.write(7, sector(4))
        disk.write(8, sector(5))
        self.has(disk, {7: 4, 8: 5})
        disk.write(7, ZEROS)
        self.has(disk, {7: None, 8: 5})
        disk.sync()
        self.has(disk, {7: None, 8: 5})

    def test_syncs_without_a_write_count(self):
        disk = Disk(100)
        for many in (1, 2, 3):
            disk.sync()
            self.assertEqual(disk.counts(), (0, many))

    def test_methods_tell_none(self):
        disk = Disk(100)
        self.assertIsNone(disk.write(3, sector(1)))
        self.assertIsNone(disk.sync())
        self.assertIsNone(disk.fail_after(3))
        self.assertIsNone(disk.power([]))

    def test_each_sector(self):
        disk = Disk(600)
        for index in range(600):
            disk.write(index, sector(index))
        for _ in range(2):
            self.has(disk, {index: index for index in range(600)})
            disk.sync()


class Losses(DiskTest):
    def waiting(self):
        """A disk with two synced sectors and four waiting writes, two of which are of one sector."""
        disk = Disk(100)
        disk.write(5, sector(1))
        disk.write(6, sector(2))
        disk.sync()
        disk.write(6, sector(3))
        disk.write(7, sector(4))
        disk.write(6, sector(5))
        disk.write(8, sector(6))
        return disk

    def test_any_of_the_waiting_writes_arrive(self):
        for chosen in range(16):
            kept = [bool(chosen >> at & 1) for at in range(4)]
            disk = self.waiting()
            disk.power(kept)
            expected = {5: 1, 6: 5 if kept[2] else 3 if kept[0] else 2, 7: 4 if kept[1] else None,
                        8: 6 if kept[3] else None}
            self.has(disk, expected)
            self.assertEqual((disk.pending(), disk.counts(), disk.losses()), (0, (6, 1), 1))
            disk.sync()
            self.has(disk, expected)
            disk.power([True] * 4)
            self.has(disk, expected)

    def test_lists_that_are_too_short(self):
        for kept, expected in (
            ([], {6: 2, 7: None, 8: None}), ([True], {6: 3, 7: None, 8: None}), ([False, True], {6: 2, 7: 4, 8: None}),
            ([True, True, True], {6: 5, 7: 4, 8: None}), ([False] * 3, {6: 2, 7: None, 8: None}),
        ):
            disk = self.waiting()
            disk.power(kept)
            self.has(disk, {5: 1, **expected})
            self.assertEqual(disk.pending(), 0)

    def test_lists_that_are_too_long(self):
        for more in ([True], [False], [True] * 50, [None, "x"]):
            disk = self.waiting()
            disk.power([False, True, False, True] + more)
            self.has(disk, {5: 1, 6: 2, 7: 4, 8: 6})
        disk = Disk(100)
        disk.power([True, True])
        self.assertEqual((disk.pending(), disk.losses(), disk.counts()), (0, 1, (0, 0)))

    def test_power_that_is_on_fails_and_comes_back(self):
        disk = self.waiting()
        for many in (1, 2, 3):
            disk.power([])
            self.assertEqual((disk.is_on(), disk.losses()), (True, many))
        disk.write(7, sector(9))
        disk.sync()
        self.has(disk, {7: 9})

    def test_writes_still_wait_while_power_is_off(self):
        disk = self.waiting()
        disk.fail_after(0)
        with self.assertRaises(PowerOff):
            disk.sync()
        self.off(disk)
        self.assertEqual((disk.pending(), disk.counts(), disk.losses()), (4, (6, 1), 1))
        self.has(disk, {5: 1, 6: 5, 7: 4, 8: 6, 9: None})
        disk.power([False, True])
        self.assertEqual((disk.pending(), disk.counts(), disk.losses()), (0, (6, 1), 1))
        self.has(disk, {5: 1, 6: 2, 7: 4, 8: None})
        self.assertTrue(disk.is_on())

    def test_the_write_at_which_power_fails_is_not_made(self):
        disk = self.waiting()
        disk.fail_after(0)
        with self.assertRaises(PowerOff):
            disk.write(9, sector(7))
        self.assertEqual((disk.pending(), disk.counts()), (4, (6, 1)))
        self.has(disk, {9: None})
        disk.power([True] * 5)
        self.has(disk, {6: 5, 7: 4, 8: 6, 9: None})

    def test_the_sync_at_which_power_fails_is_not_made(self):
        disk = self.waiting()
        disk.fail_after(1)
        disk.write(9, sector(7))
        with self.assertRaises(PowerOff):
            disk.sync()
        self.assertEqual((disk.pending(), disk.counts()), (5, (7, 1)))
        disk.power([])
        self.has(disk, {5: 1, 6: 2, 7: None, 8: None, 9: None})


class FailAfter(DiskTest):
    def made(self, disk):
        """How many writes and syncs are made, one after another, until power fails; at most 50."""
        for many in range(50):
            try:
                if many % 2:
                    disk.sync()
                else:
                    disk.write(3, sector(many))
            except PowerOff:
                return many
        return 50

    def test_so_many_operations_are_still_made(self):
        for operations in range(20):
            disk = Disk(100)
            disk.fail_after(operations)
            self.assertEqual((disk.is_on(), disk.losses()), (True, 0))
            self.assertEqual(self.made(disk), operations)
            self.assertEqual(disk.losses(), 1)
            self.assertEqual(sum(disk.counts()), operations)
            self.off(disk)

    def test_nothing_else_counts_as_an_operation(self):
        disk = Disk(100)
        disk.fail_after(2)
        for _ in range(10):
            disk.read(3)
            told = disk.size(), disk.pending(), disk.counts(), disk.is_on(), disk.losses()
            self.assertEqual(told, (100, 0, (0, 0), True, 0))
        self.assertEqual(self.made(disk), 2)

    def test_a_later_call_replaces_an_earlier_one(self):
        for first in (0, 1, 2, 7):
            for second in (0, 1, 3, 9):
                disk = Disk(100)
                disk.fail_after(first)
                disk.fail_after(second)
                self.assertEqual(self.made(disk), second)
        disk = Disk(100)
        disk.fail_after(3)
        disk.write(3, sector(1))
        disk.sync()
        disk.fail_after(4)
        self.assertEqual(self.made(disk), 4)

    def test_no_failure_is_set_after_power_came_back(self):
        disk = Disk(100)
        disk.fail_after(2)
        disk.power([])
        self.assertEqual(self.made(disk), 50)
        disk.fail_after(1)
        self.assertEqual(self.made(disk), 1)
        disk.power([])
        self.assertEqual((self.made(disk), disk.losses()), (50, 2))

    def test_no_failure_is_set_at_first(self):
        self.assertEqual(self.made(Disk(100)), 50)

    def test_power_that_is_off(self):
        disk = Disk(100)
        disk.fail_after(0)
        self.assertEqual(self.made(disk), 0)
        self.off(disk)
        disk.power([])
        disk.fail_after(2)
        self.assertEqual(self.made(disk), 2)
        self.off(disk)
        self.assertEqual(disk.losses(), 2)


class InUse(DiskTest):
    def test_it_is_false_after_each_loss_of_power(self):
        disk = Disk(100)
        disk.in_use = True
        disk.write(3, sector(1))
        disk.sync()
        disk.fail_after(1)
        disk.read(3)
        disk.sync()
        self.assertIs(disk.in_use, True)
        with self.assertRaises(PowerOff):
            disk.write(3, sector(2))
        self.assertIs(disk.in_use, False)
        disk.power([])
        self.assertIs(disk.in_use, False)
        disk.in_use = True
        disk.power([])
        self.assertIs(disk.in_use, False)
        disk.in_use = True
        disk.fail_after(0)
        self.assertIs(disk.in_use, True)
        with self.assertRaises(PowerOff):
            disk.sync()
        self.assertIs(disk.in_use, False)

    def test_disks_are_apart(self):
        first, second = Disk(100), Disk(100)
        first.in_use = True
        first.write(3, sector(1))
        first.sync()
        first.fail_after(0)
        self.assertIs(second.in_use, False)
        second.power([])
        self.assertEqual((first.is_on(), first.losses(), second.losses()), (True, 0, 1))
        self.assertIs(first.in_use, True)
        self.has(second, {3: None})
        self.assertEqual(second.counts(), (0, 0))


class Ties(DiskTest):
    """Point [3]: a disk copies the lists that it is given and returns."""

    def test_a_list_that_was_written(self):
        disk = Disk(100)
        data = sector(1)
        disk.write(3, data)
        self.assertEqual(data, sector(1))
        data[0] = 77
        self.has(disk, {3: 1})
        disk.sync()
        data[:] = [5] * 300
        self.has(disk, {3: 1})

    def test_a_list_that_arrived_by_a_loss_of_power(self):
        disk = Disk(100)
        data, kept = sector(1), [True, False]
        disk.write(3, data)
        disk.power(kept)
        self.assertEqual(kept, [True, False])
        data[5], kept[0] = 99, False
        self.has(disk, {3: 1})

    def test_lists_that_were_read(self):
        disk = Disk(100)
        disk.write(3, sector(1))
        for _ in range(2):
            for index in (3, 4):
                told = disk.read(index)
                self.assertIsInstance(told, list)
                told[:] = [9]
                disk.read(index)[0] = 99
            self.has(disk, {3: 1, 4: None, 5: None})
            disk.sync()

    def test_one_list_for_two_sectors(self):
        disk = Disk(100)
        data = sector(1)
        disk.write(3, data)
        data[:] = sector(2)
        disk.write(4, data)
        data.clear()
        self.has(disk, {3: 1, 4: 2})

    def test_kinds_of_what_is_told(self):
        disk = Disk(100)
        self.assertIsInstance(disk.counts(), tuple)
        self.assertIsInstance(disk.pending(), int)
        self.assertIsInstance(disk.losses(), int)
        self.assertIsInstance(disk.is_on(), bool)


class DrawnOperations(DiskTest):
    """Long rows of operations against a disk that works out everything anew."""

    def same(self, disk, slow):
        for index in range(0, slow.sectors, 9):
            self.assertEqual(disk.read(index), slow.read(index))
        counts = slow.made.count("write"), slow.made.count("sync")
        self.assertEqual((disk.pending(), disk.counts(), disk.is_on()), (len(slow.waits), counts, slow.on))
        self.assertEqual((disk.losses(), disk.in_use, disk.size()), (slow.lost, slow.in_use, slow.sectors))

    def told(self, action, *arguments):
        """True if there was no PowerOff."""
        try:
            action(*arguments)
        except PowerOff:
            return False
        return True

    def step(self, draw, disk, slow):
        way = draw.randrange(20)
        if way < 11:
            index, data = 9 * draw.randrange(4), sector(draw.randrange(1000))
            self.assertEqual(self.told(disk.write, index, data), slow.write(index, data))
        elif way < 14:
            self.assertEqual(self.told(disk.sync), slow.sync())
        elif way < 16:
            many = draw.randrange(6)
            self.assertEqual(self.told(disk.fail_after, many), slow.fail_after(many))
        elif way == 16:
            disk.in_use = slow.in_use = slow.on
        elif way < 19 and not slow.on or way == 19:
            kept = [draw.randrange(2) == 1 for _ in range(draw.randrange(8))]
            disk.power(kept)
            slow.power(kept)

    def test_rows_of_operations(self):
        for seed in range(40):
            draw = random.Random(seed)
            sectors = draw.randint(100, 120)
            disk, slow = Disk(sectors), SlowDisk(sectors)
            for _ in range(80):
                self.step(draw, disk, slow)
                self.same(disk, slow)
            self.assertGreater(slow.lost, 0)


if __name__ == "__main__":
    unittest.main()
