import random
import unittest

from rulestead.blocks import area_size, area_start, found, head, read_block, read_head, write_block
from rulestead.disk import Disk
from rulestead.states import State
from tests import plain, plain_codes, plain_disk
from tests.chance import X, denial, fact, rule

ZEROS = [0] * 64
ITEMS = [("relation", "e", 1), fact("e", 1), rule("r", "p", (X,), fact("e", X)), denial("d", fact("p", X))]


def bytes_of(many, start=1):
    return [(start + at * 7) % 256 for at in range(many)]


class BlockTest(unittest.TestCase):

    def test_a_block_without_bytes(self):
        self.assertEqual(write_block(1, []), [[0, 0, 0, 0, 0, 1, 0, 0, 0, 1] + [0] * 54])

    def test_a_block_of_some_bytes(self):
        data = bytes_of(51)
        self.assertEqual(write_block(2 ** 40 + 3, data), [
            [1, 0, 0, 0, 0, 3, 0, 0, 0, 2, 0, 0, 0, 51] + data[:50],
            [1, 0, 0, 0, 0, 3, 0, 0, 0, 2] + data[50:] + [0] * 53])
        self.assertEqual(write_block(7, data[:50]), [[0, 0, 0, 0, 0, 7, 0, 0, 0, 1, 0, 0, 0, 50] + data[:50]])

    def test_blocks_are_written_and_read(self):
        for many in (0, 1, 2, 49, 50, 51, 103, 104, 105, 157, 158, 159, 256, 300, 400):
            for turn in (1, 2, 255, 256, 2 ** 40 - 1, 2 ** 47):
                data = bytes_of(many, turn)
                kept = list(data)
                sectors = write_block(turn, data)
                self.assertEqual(data, kept)
                self.assertEqual(sectors, plain_disk.block(turn, data))
                self.assertTrue(all(len(sector) == 64 for sector in sectors))
                for rest in ([], [ZEROS], [[9] * 64, ZEROS], write_block(turn, [1])):
                    self.assertEqual(read_block(sectors + rest, turn), (data, len(sectors)))
                if sectors[1:]:
                    self.assertIsNone(read_block(sectors[:-1], turn))
                for other in (turn + 1, turn + 256, turn * 2):
                    self.assertIsNone(read_block(sectors, other))

    def test_what_is_not_looked_at(self):
        data = bytes_of(110)
        sectors = write_block(5, data)
        sectors[1][6:10] = [9, 9, 9, 9]
        sectors[2][6:10] = [0, 0, 0, 0]
        sectors[2][40:] = [7] * 24
        self.assertEqual(read_block(sectors, 5), (data, 3))

    def test_fewer_bytes_than_the_sectors_have(self):
        """The number of bytes may leave whole sectors out."""
        sectors = write_block(5, bytes_of(110))
        sectors[0][10:14] = [0, 0, 0, 2]
        self.assertEqual(read_block(sectors, 5), (bytes_of(110)[:2], 3))
        sectors[0][10:14] = [0, 0, 0, 0]
        self.assertEqual(read_block(sectors, 5), ([], 3))

    def test_numbers_of_bytes(self):
        for many in (1, 2, 3):
            sectors = [[0, 0, 0, 0, 0, 5, 0, 0, 0, many] + [1] * 54 for _ in range(many)]
            for size in (54 * many - 4, 54 * many - 3, 54 * many, 2 ** 32 - 1):
                sectors[0][10:14] = plain_disk.fixed(size, 4)
                told = ([1] * size, many) if size <= 54 * many - 4 else None
                self.assertEqual(read_block(sectors, 5), told)

    def test_numbers_of_sectors(self):
        sectors = write_block(5, bytes_of(110)) + [ZEROS]
        for many in (0, 1, 2, 3, 4, 5, 2 ** 32 - 1):
            sectors[0][6:10] = plain_disk.fixed(many, 4)
            self.assertEqual(read_block(sectors, 5) is not None, many == 3, many)
        # One sector more of the same turn belongs to the block then.
        sectors[3] = [0, 0, 0, 0, 0, 5] + [3] * 58
        sectors[0][6:10] = plain_disk.fixed(4, 4)
        self.assertEqual(read_block(sectors, 5), (bytes_of(110), 4))

    def test_turns_of_all_sectors(self):
        for at in range(3):
            for place in range(6):
                sectors = write_block(2 ** 30 + 5, bytes_of(110))
                sectors[at][place] += 1
                self.assertIsNone(read_block(sectors, 2 ** 30 + 5))
        self.assertIsNone(read_block([], 5))
        self.assertIsNone(read_block([ZEROS], 1))

    def test_lists_are_nobody_elses(self):
        data = [1, 2, 3]
        sectors = write_block(5, data)
        data.clear()
        told, _ = read_block(sectors, 5)
        self.assertEqual(told, [1, 2, 3])
        told.clear()
        self.assertEqual(read_block(sectors, 5), ([1, 2, 3], 1))
        sectors[0][14] = 9
        self.assertEqual(write_block(5, [1, 2, 3])[0][14], 1)

    def test_random_sectors(self):
        for seed in range(300):
            chooser = random.Random(seed)
            sectors = write_block(5, bytes_of(chooser.randrange(150)))
            for _ in range(chooser.randrange(3)):
                sectors[chooser.randrange(len(sectors))][chooser.randrange(14)] = chooser.choice((0, 1, 2, 5, 54, 255))
            told = read_block(sectors, 5)
            many = int.from_bytes(bytes(sectors[0][6:10]), "big")
            size = int.from_bytes(bytes(sectors[0][10:14]), "big")
            reads = 1 <= many <= len(sectors) and size <= 54 * many - 4
            reads = reads and all(sector[:6] == [0, 0, 0, 0, 0, 5] for sector in sectors[:many])
            held = sum([sector[10:] for sector in sectors[:many]], [])
            self.assertEqual(told, (held[4:4 + size], many) if reads else None)


class HeadTest(unittest.TestCase):

    def test_heads(self):
        self.assertEqual(head(258, 1), [82, 85, 76, 69, 0, 0, 0, 0, 1, 2, 1] + [0] * 53)
        for turn in (1, 2, 255, 256, 2 ** 40, 2 ** 47, 2 ** 48 - 1):
            for area in (0, 1):
                self.assertEqual(head(turn, area), plain_disk.head(turn, area))
                told = read_head(head(turn, area))
                self.assertEqual(told, (turn, area))
                self.assertIs(type(told), tuple)

    def test_sectors_that_are_no_heads(self):
        self.assertIsNone(read_head(ZEROS))
        self.assertIsNone(read_head(head(0, 0)))
        self.assertIsNone(read_head(head(0, 1)))
        self.assertIsNone(read_head(head(1, 2)))
        self.assertIsNone(read_head([255] * 64))
        self.assertIsNone(read_head(write_block(1, [1])[0]))
        for at in (0, 1, 2, 3, *range(11, 64)):
            sector = head(5, 1)
            sector[at] += 1
            self.assertIsNone(read_head(sector), at)

    def test_areas(self):
        for size, many in ((60, 29), (61, 29), (62, 30), (63, 30), (399, 198), (400, 199)):
            self.assertEqual(area_size(size), many)
            self.assertEqual(area_start(size, 0), 2)
            self.assertEqual(area_start(size, 1), 2 + many)


class FoundTest(unittest.TestCase):

    def disk(self, heads, *areas, size=60):
        """A disk with these heads, and lists of sectors at the beginning of its areas."""
        disk = Disk(size)
        for place, sector in enumerate(heads):
            disk.write(place, sector)
        for area, sectors in enumerate(areas):
            for at, sector in enumerate(sectors):
                disk.write(area_start(size, area) + at, sector)
        return disk

    def image(self, turn, commits, items):
        return plain_disk.block(turn, plain_codes.image(commits, items))

    def group(self, turn, changes):
        return plain_disk.block(turn, plain_codes.changes(changes))

    def check(self, disk, place, turn, area, commits, items):
        before = ([disk.read(at) for at in range(disk.size())], disk.counts())
        told = found(disk)
        self.assertIs(type(told), tuple)
        self.assertEqual(told[:4], (place, turn, area, commits))
        self.assertIs(type(told[4]), State)
        self.assertEqual(told[4].all_items(), plain.in_order(items))
        self.assertEqual(([disk.read(at) for at in range(disk.size())], disk.counts()), before)

    def test_no_head(self):
        self.assertIsNone(found(Disk(60)))
        self.assertIsNone(found(self.disk([], self.image(1, 0, []))))
        self.assertIsNone(found(self.disk([head(0, 0), head(3, 2)], self.image(1, 0, []))))

    def test_an_image(self):
        self.check(self.disk([head(1, 0)], self.image(1, 0, [])), 0, 1, 0, 0, [])
        self.check(self.disk([ZEROS, head(7, 1)], [], self.image(7, 300, ITEMS)), 1, 7, 1, 300, ITEMS)
        self.check(self.disk([head(7, 1)], [], self.image(7, 3, ITEMS), size=61), 0, 7, 1, 3, ITEMS)

    def test_the_head_that_counts(self):
        areas = (self.image(5, 1, ITEMS), self.image(6, 2, ITEMS[:1]))
        self.check(self.disk([head(5, 0), head(6, 1)], *areas), 1, 6, 1, 2, ITEMS[:1])
        self.check(self.disk([head(6, 1), head(5, 0)], *areas), 0, 6, 1, 2, ITEMS[:1])
        self.check(self.disk([head(5, 0), [7] * 64], *areas), 0, 5, 0, 1, ITEMS)
        areas = (self.image(6, 1, ITEMS), self.image(6, 2, ITEMS[:1]))
        self.check(self.disk([head(6, 0), head(6, 1)], *areas), 0, 6, 0, 1, ITEMS)
        self.check(self.disk([head(6, 1), head(6, 0)], *areas), 0, 6, 1, 2, ITEMS[:1])

    def test_groups(self):
        image = self.image(5, 4, ITEMS[:2])
        long = fact("e", "a" * 30)
        first = self.group(5, [("comes", item) for item in ITEMS[2:] + [long]])
        second = self.group(5, [("goes", (1, "e", (1,)))])
        self.assertGreater(len(first), 1)
        items = [ITEMS[0], long] + ITEMS[2:]
        self.check(self.disk([head(5, 0)], image + first), 0, 5, 0, 5, ITEMS + [long])
        self.check(self.disk([head(5, 0)], image + first + second), 0, 5, 0, 6, items)
        # A group that does not lie there whole, and what stands behind it, are not read.
        self.check(self.disk([head(5, 0)], image + first[:-1]), 0, 5, 0, 4, ITEMS[:2])
        self.check(self.disk([head(5, 0)], image + first[:-1] + [ZEROS] + second), 0, 5, 0, 4, ITEMS[:2])
        self.check(self.disk([head(5, 0)], image + [ZEROS] + second), 0, 5, 0, 4, ITEMS[:2])
        self.check(self.disk([head(5, 0)], image + first + self.group(4, [])), 0, 5, 0, 5, ITEMS + [long])
        self.check(self.disk([head(5, 0)], image + self.group(5, []) * 3), 0, 5, 0, 7, ITEMS[:2])

    def test_groups_do_not_reach_beyond_their_area(self):
        image = self.image(5, 4, [])
        full = image + self.group(5, []) * (area_size(60) - len(image))
        self.check(self.disk([head(5, 0)], full, self.group(5, [])), 0, 5, 0, 4 + 28, [])
        self.check(self.disk([head(5, 1)], self.group(5, []), full), 0, 5, 1, 4 + 28, [])

    def test_writes_that_wait_are_read(self):
        disk = self.disk([head(1, 0)], self.image(1, 0, ITEMS))
        self.check(disk, 0, 1, 0, 0, ITEMS)
        disk.sync()
        disk.write(1, head(2, 1))
        for at, sector in enumerate(self.image(2, 9, [])):
            disk.write(area_start(60, 1) + at, sector)
        self.check(disk, 1, 2, 1, 9, [])
        disk.power([])
        self.check(disk, 0, 1, 0, 0, ITEMS)


if __name__ == "__main__":
    unittest.main()
