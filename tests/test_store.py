import collections
import copy
import random
import time
import unittest

from rulestead.disk import Disk
from rulestead.errors import DiskFull, PowerOff
from rulestead.states import State
from rulestead.store import Store
from tests import plain, plain_disk
from tests.chance import X, denial, fact, rule
from tests.plain_disk import PlainStore
from tests.things import Some

ITEMS = [("relation", "e", 1), fact("e", 1), rule("r", "p", (X,), fact("e", X)), denial("d", fact("p", X))]


def come(*items):
    return [("comes", item) for item in items]


def all_sectors(disk):
    return [disk.read(at) for at in range(disk.size())]


def parts(state):
    return copy.deepcopy((state.relations, state.facts, state.rules, state.denials))


class StoreCase(unittest.TestCase):

    def new(self, sectors=60):
        """A disk with a store, and the plain version of it."""
        self.disk, self.plain = Disk(sectors), PlainStore(sectors)
        self.open()

    def open(self):
        before = self.disk.counts()
        self.store = Store(self.disk)
        self.plain.open()
        self.same(before)

    def same(self, before):
        """Fails unless disk and store are as the plain version says, after what was done since `before`."""
        self.assertEqual(all_sectors(self.disk), self.plain.sectors)
        done = tuple(now - then for now, then in zip(self.disk.counts(), before))
        self.assertEqual(done, (self.plain.writes, self.plain.syncs))
        self.plain.writes = self.plain.syncs = 0
        self.assertEqual(self.disk.pending(), 0)
        self.assertEqual(self.store.commits, self.plain.commits)
        self.assertIs(type(self.store.state), State)
        self.assertEqual(parts(self.store.state), plain.parts(self.plain.items))

    def commit(self, *changes):
        """Makes a commit, if it can be stored; True if it was."""
        changes, before = list(changes), self.disk.counts()
        state, kept, fits = self.store.state, parts(self.store.state), self.plain.fits(list(changes))
        self.assertIs(self.store.fits(changes), fits)
        if fits:
            self.assertIsNone(self.store.commit(changes))
            self.plain.commit(changes)
            self.assertIsNot(self.store.state, state)
        else:
            with self.assertRaises(DiskFull):
                self.store.commit(changes)
            self.assertIs(self.store.state, state)
        self.assertEqual(parts(state), kept)
        self.same(before)
        return fits

    def lose(self, kept=()):
        """Power fails and comes back; nothing has to wait."""
        self.disk.power(list(kept))
        self.open()


class SmallTest(StoreCase):

    def test_a_new_disk(self):
        self.new()
        self.assertEqual(self.disk.counts(), (2, 2))
        self.assertEqual(self.disk.read(0), plain_disk.head(1, 0))
        self.assertEqual(self.disk.read(1), [0] * 64)
        self.assertEqual(self.disk.read(2), plain_disk.block(1, [0, 0])[0])
        self.assertEqual((self.store.commits, self.store.state.all_items()), (0, []))

    def test_opened_again(self):
        self.new()
        self.lose()
        self.assertEqual(self.disk.read(1), plain_disk.head(2, 1))
        self.assertEqual(self.disk.read(31), plain_disk.block(2, [0, 0])[0])
        self.lose()
        self.assertEqual(self.disk.read(0), plain_disk.head(3, 0))
        self.assertEqual(self.disk.counts(), (6, 6))

    def test_commits_are_groups_behind_the_image(self):
        self.new()
        self.assertTrue(self.commit(*come(*ITEMS)))
        self.assertEqual(self.disk.counts(), (3, 3))
        self.assertTrue(self.commit(("goes", (1, "e", (1,)))))
        self.assertTrue(self.commit())
        self.assertEqual(self.disk.counts(), (5, 5))
        self.assertEqual(self.store.commits, 3)
        self.lose()
        self.assertEqual((self.store.commits, self.store.state.all_items()), (3, ITEMS[:1] + ITEMS[2:]))

    def test_a_new_image_when_the_groups_are_too_long(self):
        self.new()
        for at in range(27):
            self.commit(("comes", fact("e", at)))
        self.assertEqual(self.disk.read(1), [0] * 64)
        self.commit(("comes", fact("e", 27)))
        # The image and 28 groups fill the area; the next commit is written as an image.
        self.assertEqual(self.disk.read(1), [0] * 64)
        before = self.disk.counts()
        self.commit(("comes", fact("e", 28)))
        self.assertEqual(self.disk.read(1), plain_disk.head(2, 1))
        self.assertEqual(self.disk.counts(), (before[0] + self.plain.used + 1, before[1] + 2))
        self.assertEqual(self.store.commits, 29)

    def test_a_full_disk(self):
        self.new()
        # The number of commits, that of the items, and 43 facts with 36 bytes each: 1550 bytes, of 1562.
        many = [fact("e", "%02d" % at + "a" * 28) for at in range(43)]
        self.assertTrue(self.store.fits(come(*many)))
        self.assertFalse(self.commit(*come(*many, fact("e", "a" * 30))))
        self.assertTrue(self.commit(*come(*many)))
        self.assertTrue(self.commit(*come(fact("e", "b" * 4))))
        self.assertFalse(self.commit(*come(fact("e", "b"))))
        self.assertFalse(self.commit(*come(fact("", 1))))
        self.assertTrue(self.commit(("goes", (1, "e", ("bbbb",)))))
        self.assertTrue(self.commit(*come(fact("e", "c" * 4))))
        self.lose()
        self.assertEqual(len(self.store.state.all_items()), 44)
        self.assertFalse(self.commit(*come(fact("e", "b"))))

    def test_the_number_of_commits_takes_its_bytes(self):
        """After 127 commits their number takes one byte more, and what just fits does no more."""
        self.new()
        items = [fact("e", "%02d" % at + "a" * 28) for at in range(43)] + [fact("e", "a" * 6)]
        self.assertTrue(self.commit(*come(*items)))
        while self.store.commits < 127:
            self.assertTrue(self.commit())
        self.assertFalse(self.commit())
        self.lose()
        self.assertFalse(self.commit())
        self.assertTrue(self.commit(("goes", (1, "e", ("a" * 6,)))))

    def test_a_group_that_is_too_long_for_an_area(self):
        """The changes take more than the state after them."""
        self.new()
        many = [fact("e", "%02d" % at + "a" * 28) for at in range(43)]
        self.commit(*come(*many))
        before = self.disk.counts()
        self.assertTrue(self.commit(*[("goes", (1, item[1], item[2])) for item in many], *come(*many), *come(*many)))
        self.assertEqual(self.disk.counts()[1], before[1] + 2)

    def test_what_is_passed_and_told(self):
        self.new()
        changes = come(*ITEMS)
        self.store.commit(changes)
        changes.clear()
        state, before = self.store.state, parts(self.store.state)
        self.store.commit([("goes", (3, "d", ()))])
        self.assertEqual(parts(state), before)
        self.assertEqual(self.store.state.all_items(), ITEMS[:3])

    def test_power_is_off(self):
        self.new()
        self.commit(*come(*ITEMS))
        self.disk.fail_after(0)
        with self.assertRaises(PowerOff):
            self.disk.sync()
        before = all_sectors(self.disk), self.disk.counts()
        for changes in ([], come(fact("e", 2)), come(*[fact("e", "a" * at) for at in range(400)])):
            with self.assertRaises(PowerOff):
                self.store.commit(changes)
            self.assertEqual((self.store.commits, self.store.state.all_items()), (1, ITEMS))
        with self.assertRaises(PowerOff):
            Store(self.disk)
        with self.assertRaises(PowerOff):
            Store(self.off())
        self.assertEqual((all_sectors(self.disk), self.disk.counts()), before)

    def off(self):
        """A new disk without power."""
        disk = Disk(60)
        disk.fail_after(0)
        with self.assertRaises(PowerOff):
            disk.sync()
        return disk


class ManyTest(StoreCase):

    def some_change(self, some):
        keys = [plain.key(item) for item in self.plain.items]
        form = some.chooser.random()
        if keys and form < 0.2:
            return "goes", some.chooser.choice(keys)
        if form < 0.6:
            return "comes", ("fact", some.name(), some.row())
        return some.change()

    def some_changes(self, some):
        most = some.chooser.choice((1, 1, 2, 3, 5, 10, 59))
        return [self.some_change(some) for _ in range(some.chooser.randint(1, most))]

    def test_random_commits(self):
        told = collections.Counter()
        for seed in range(60):
            some = Some(random.Random(seed))
            self.new(some.chooser.choice((60, 61, 70, 100, 130, 400)))
            for _ in range(some.chooser.randint(1, 40)):
                told[self.commit(*self.some_changes(some))] += 1
                if some.chooser.random() < 0.1:
                    self.lose()
        self.assertGreater(min(told[True], told[False]), 50, told)

    def crash(self, some, action):
        """Lets power fail at one of the operations of an action; any of the waiting writes arrive."""
        self.disk.fail_after(some.chooser.choice((0, 1, 2, 3, 4, 5, some.chooser.randrange(60))))
        try:
            action()
        except PowerOff:
            kept = some.chooser.choice(((), [True] * 400, [False] + [True] * 400,
                                        [some.chooser.random() < 0.5 for _ in range(400)],
                                        [some.chooser.random() < 0.9 for _ in range(400)]))
            self.disk.power(list(kept))
            return True
        return False

    def reopen(self, some, told):
        """Opens the disk until power does not fail in it, and checks what is found against what may be."""
        for _ in range(some.chooser.choice((0, 0, 1, 2))):
            self.crash(some, lambda: Store(self.disk))
        self.disk.power([])
        self.load(all_sectors(self.disk))
        before = self.disk.counts()
        self.store = Store(self.disk)
        found = self.store.commits, self.store.state.all_items()
        self.assertIn(found, told)
        self.plain.commits, self.plain.items = found
        self.plain.open()
        self.same(before)

    def load(self, sectors):
        """Gives the plain version the sectors, and the head that counts in them."""
        heads = [(place, turn_area(sectors[place])) for place in (0, 1)]
        heads = [(place, *told) for place, told in heads if told]
        self.plain.sectors = sectors
        self.plain.place, self.plain.turn, self.plain.area = max(
            heads, key=lambda one: (one[1], -one[0]), default=(1, 0, 1))

    def test_power_fails_at_any_operation(self):
        outcomes = collections.Counter()
        for seed in range(120):
            some = Some(random.Random(seed))
            self.disk = Disk(some.chooser.choice((60, 61, 75)))
            self.plain = PlainStore(self.disk.size())
            self.reopen(some, [(0, [])])
            for _ in range(12):
                changes = self.some_changes(some)
                if not self.plain.fits(changes):
                    continue
                before = self.plain.commits, self.plain.items
                after = self.plain.commits + 1, plain.changed(self.plain.items, changes)
                if not self.crash(some, lambda: self.store.commit(changes)):
                    self.disk.power([])
                    self.reopen(some, [after])
                    outcomes["made"] += 1
                    continue
                self.assertEqual((self.store.commits, self.store.state.all_items()), before)
                self.reopen(some, [before, after])
                outcomes[self.plain.commits == after[0]] += 1
        self.assertGreater(min(outcomes[kind] for kind in ("made", True, False)), 40, outcomes)

    def each_arrival(self, disk):
        """Copies of a disk without power, to which it came back, with all sets of a few waiting writes."""
        pending = disk.pending()
        some = random.Random(pending)
        sets = [[bool(number >> at & 1) for at in range(pending)] for number in range(2 ** min(pending, 4))]
        if pending > 4:
            sets = [[True] * pending, [True] * (pending - 1), [False] + [True] * (pending - 1), []]
            sets += [[some.random() < 0.7 for _ in range(pending)] for _ in range(4)]
        for kept in sets:
            copied = copy.deepcopy(disk)
            copied.power(kept)
            yield copied

    def each_failure(self, disk, action):
        """Disks in which power failed at each operation of an action, and came back in any way."""
        at = 0
        while True:
            copied = copy.deepcopy(disk)
            copied.fail_after(at)
            try:
                action(copied)
                return
            except PowerOff:
                yield from self.each_arrival(copied)
            at += 1

    def check_each(self, changes):
        """Power fails at each operation of a commit, and at each one of the opening behind it."""
        first = self.store.commits, self.store.state.all_items()
        second = first[0] + 1, plain.changed(first[1], changes)
        told = collections.Counter()

        def commit(disk):
            store = copy.copy(self.store)
            store.disk = disk
            store.commit(changes)

        for disk in self.each_failure(self.disk, commit):
            store = Store(copy.deepcopy(disk))
            found = store.commits, store.state.all_items()
            self.assertIn(found, (first, second))
            told[found == second] += 1
            for again in self.each_failure(disk, Store):
                store = Store(again)
                self.assertEqual((store.commits, store.state.all_items()), found)
        return told

    def test_each_operation(self):
        self.new()
        self.commit(*come(*ITEMS))
        self.commit(*come(*[fact("e", "a" * at) for at in range(8)]))
        told = self.check_each(come(fact("e", 3), *[fact("e", "b" * at) for at in range(8)]))
        self.assertGreater(min(told[True], told[False]), 0)

    def test_each_operation_of_an_image(self):
        self.new()
        while self.plain.used < self.plain.area_size:
            self.commit(*come(fact("e", self.store.commits)))
        told = self.check_each(come(fact("e", "b")))
        self.assertGreater(min(told[True], told[False]), 0)

    def test_a_first_opening_that_is_cut_off(self):
        disk = Disk(60)
        for one in self.each_failure(disk, Store):
            store = Store(one)
            self.assertEqual((store.commits, store.state.all_items()), (0, []))
            store.commit(come(*ITEMS))
            one.power([])
            self.assertEqual(Store(one).state.all_items(), ITEMS)

    def test_openings_and_commits_are_quick(self):
        start = time.process_time()
        self.disk, self.plain = Disk(400), None
        store = Store(self.disk)
        store.commit(come(*[fact("e", at, "a" * 20) for at in range(200)]))
        for at in range(150):
            store.commit(come(fact("e", at)))
        for _ in range(150):
            self.disk.power([])
            store = Store(self.disk)
        self.assertEqual((store.commits, len(store.state.all_items())), (151, 350))
        self.assertLess(time.process_time() - start, 30)


def turn_area(sector):
    """The turn and the area of a head, or None."""
    turn = int.from_bytes(bytes(sector[4:10]), "big")
    told = [(turn, area) for area in (0, 1) if turn and sector == plain_disk.head(turn, area)]
    return told[0] if told else None


if __name__ == "__main__":
    unittest.main()
