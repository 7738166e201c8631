import random
import unittest

from rulestead.disk import Disk
from rulestead.errors import InvalidArgument, PowerOff
from tests.plain_disk import PlainDisk

ZEROS = [0] * 64


def filled(byte):
    return [byte] * 64


class SmallTest(unittest.TestCase):

    def setUp(self):
        self.disk = Disk(60)

    def write(self, *bytes_of_sectors):
        for index, byte in bytes_of_sectors:
            self.disk.write(index, filled(byte))

    def shows(self, *expected):
        self.assertEqual([self.disk.read(index)[0] for index in range(len(expected))], list(expected))

    def test_sizes(self):
        for sectors in (60, 61, 399, 400):
            disk = Disk(sectors)
            self.assertEqual(disk.size(), sectors)
            self.assertEqual([disk.read(index) for index in range(sectors)], [ZEROS] * sectors)

    def test_sizes_that_are_none(self):
        for sectors in (59, 401, 0, -60, 10 ** 9, True, False, "60", None, 60.0, [60], (60,), b"60", {}):
            with self.assertRaises(InvalidArgument, msg=repr(sectors)):
                Disk(sectors)

    def test_a_new_disk(self):
        self.assertIs(self.disk.in_use, False)
        self.assertIs(self.disk.is_on(), True)
        self.assertEqual((self.disk.pending(), self.disk.counts(), self.disk.losses()), (0, (0, 0), 0))

    def test_sectors_are_read_as_they_were_written_last(self):
        self.write((0, 1), (1, 2), (0, 3))
        self.shows(3, 2, 0)
        self.assertEqual((self.disk.pending(), self.disk.counts()), (3, (3, 0)))
        self.assertIsNone(self.disk.sync())
        self.shows(3, 2, 0)
        self.assertEqual((self.disk.pending(), self.disk.counts()), (0, (3, 1)))
        self.write((1, 9))
        self.shows(3, 9, 0)

    def test_writes_that_wait_are_lost(self):
        self.write((0, 1), (1, 2))
        self.disk.sync()
        self.write((0, 3), (2, 4))
        self.assertIsNone(self.disk.power([]))
        self.shows(1, 2, 0)
        self.assertEqual((self.disk.pending(), self.disk.counts()), (0, (4, 1)))
        self.assertEqual(self.disk.losses(), 1)
        self.assertTrue(self.disk.is_on())

    def test_any_of_the_waiting_writes_arrive_in_order(self):
        for kept, expected in (([True], (3, 0)), ([True, False, True], (6, 0)), ([False, True], (0, 4)),
                               ([False, True, True], (6, 4)), ([True, True, True, True], (6, 4)),
                               ([False, False, False, True, True], (0, 0)), ([True, True, False], (3, 4))):
            self.disk = Disk(60)
            self.write((0, 3), (1, 4), (0, 6))
            self.disk.power(kept)
            self.shows(*expected)
            self.assertEqual(self.disk.pending(), 0)
            self.disk.power([True] * 9)
            self.shows(*expected)

    def test_power_fails_after_some_operations(self):
        self.disk.fail_after(2)
        self.write((0, 1))
        self.disk.sync()
        with self.assertRaises(PowerOff):
            self.disk.write(0, filled(2))
        self.assertIs(self.disk.is_on(), False)
        self.assertEqual(self.disk.counts(), (1, 1))
        self.shows(1)

    def test_a_sync_at_which_power_fails_is_not_made(self):
        self.write((0, 1))
        self.disk.fail_after(0)
        with self.assertRaises(PowerOff):
            self.disk.sync()
        self.assertEqual((self.disk.pending(), self.disk.counts()), (1, (1, 0)))
        self.shows(1)
        self.disk.power([])
        self.shows(0)

    def test_while_power_is_off(self):
        self.write((0, 1))
        self.disk.fail_after(1)
        self.write((1, 2))
        for _ in range(2):
            with self.assertRaises(PowerOff):
                self.disk.write(1, filled(3))
            with self.assertRaises(PowerOff):
                self.disk.sync()
            with self.assertRaises(PowerOff):
                self.disk.fail_after(5)
            # What waits still waits, and is read.
            self.shows(1, 2)
            self.assertEqual((self.disk.pending(), self.disk.counts(), self.disk.losses()), (2, (2, 0), 1))
            self.assertIs(self.disk.is_on(), False)
            self.assertEqual(self.disk.size(), 60)
        self.disk.power([False, True])
        self.shows(0, 2)
        self.assertEqual(self.disk.losses(), 1)
        self.assertTrue(self.disk.is_on())

    def test_another_number_replaces_the_first(self):
        self.disk.fail_after(0)
        self.assertIsNone(self.disk.fail_after(1))
        self.disk.sync()
        self.disk.fail_after(2)
        self.disk.sync()
        self.disk.sync()
        with self.assertRaises(PowerOff):
            self.disk.sync()

    def test_no_failure_is_set_when_power_comes_back(self):
        self.disk.fail_after(3)
        self.disk.power([])
        for _ in range(6):
            self.disk.sync()
        self.disk.fail_after(0)
        with self.assertRaises(PowerOff):
            self.disk.sync()
        self.disk.power([])
        for _ in range(6):
            self.disk.sync()
        self.assertEqual(self.disk.losses(), 2)

    def test_in_use_ends_when_power_fails(self):
        self.disk.in_use = True
        self.disk.fail_after(0)
        self.assertIs(self.disk.in_use, True)
        with self.assertRaises(PowerOff):
            self.disk.sync()
        self.assertIs(self.disk.in_use, False)
        self.disk.power([])
        self.assertIs(self.disk.in_use, False)
        self.disk.in_use = True
        self.disk.power([])
        self.assertIs(self.disk.in_use, False)

    def test_lists_are_copied(self):
        data, kept = filled(1), [True]
        self.disk.write(0, data)
        data[:] = filled(9)
        self.disk.read(0).clear()
        self.shows(1)
        self.disk.power(kept)
        self.assertEqual(kept, [True])
        self.shows(1)
        told = self.disk.read(0)
        told[0] = 7
        self.disk.read(1)[0] = 7
        self.shows(1, 0, 0)
        self.disk.sync()
        self.shows(1, 0, 0)

    def test_disks_are_apart(self):
        other = Disk(60)
        self.write((0, 1))
        self.assertEqual((other.read(0), other.pending(), other.counts()), (ZEROS, 0, (0, 0)))


class ManyTest(unittest.TestCase):

    def step(self, chooser, disk, other):
        """Does one thing to both disks, and fails unless both do it or refuse it."""
        form = chooser.randrange(12)
        done = True
        try:
            if form < 5:
                index, data = chooser.choice((0, 1, 1, 2, disk.size() - 1)), filled(chooser.randrange(256))
                done = other.write(index, data)
                disk.write(index, data)
            elif form < 8:
                done = other.sync()
                disk.sync()
            elif form < 10:
                many = chooser.randrange(7)
                done = other.on
                other.left = many if done else None
                disk.fail_after(many)
            else:
                kept = [chooser.random() < 0.5 for _ in range(chooser.randrange(6))]
                other.power(kept)
                disk.power(kept)
        except PowerOff:
            self.assertFalse(done)
        else:
            self.assertTrue(done)

    def test_random_operations(self):
        for seed in range(150):
            chooser = random.Random(seed)
            sectors = chooser.choice((60, 61, 100, 400))
            disk, other = Disk(sectors), PlainDisk(sectors)
            for _ in range(60):
                self.step(chooser, disk, other)
                for index in (0, 1, 2, sectors - 1):
                    self.assertEqual(disk.read(index), other.read(index))
                self.assertEqual(disk.pending(), other.pending())
                self.assertEqual(disk.counts(), other.counts())
                self.assertEqual((disk.is_on(), disk.losses()), (other.on, other.failed))


if __name__ == "__main__":
    unittest.main()
