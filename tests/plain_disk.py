"""Plain versions of a disk, of blocks and of a store (points [27] to [31]). Nothing here uses the program."""
from tests import plain, plain_codes

SECTOR = 64


class PlainDisk:
    """A disk that keeps a list of all that happened: a write that waits, one that arrived or one that was lost."""

    def __init__(self, sectors):
        self.sectors = sectors
        self.log = []
        self.syncs = 0
        self.failed = 0
        self.on = True
        self.left = None

    def read(self, index):
        seen = [0] * SECTOR
        for at, data, fate in self.log:
            # Of those writes that waited when power came back, the lost ones never were.
            if at == index and fate != "lost":
                seen = data
        return list(seen)

    def all_sectors(self):
        return [self.read(index) for index in range(self.sectors)]

    def pending(self):
        return sum(fate == "waits" for _, _, fate in self.log)

    def counts(self):
        return len(self.log), self.syncs

    def settle(self, fates):
        """Gives each waiting write, in order, its fate."""
        fates = list(fates)
        self.log = [(at, data, fates.pop(0) if fate == "waits" else fate) for at, data, fate in self.log]

    def fail(self):
        self.on, self.left = False, None
        self.failed += 1

    def allows(self):
        """True if one more operation is made."""
        if self.on and self.left == 0:
            self.fail()
        if not self.on:
            return False
        if self.left is not None:
            self.left -= 1
        return True

    def write(self, index, data):
        if not self.allows():
            return False
        self.log.append((index, list(data), "waits"))
        return True

    def sync(self):
        if not self.allows():
            return False
        self.syncs += 1
        self.settle(["arrived"] * self.pending())
        return True

    def power(self, kept):
        if self.on:
            self.fail()
        kept = (kept + [False] * self.pending())[:self.pending()]
        self.settle(["arrived" if arrives else "lost" for arrives in kept])
        self.on = True


def fixed(worth, many):
    return list(worth.to_bytes(many, "big"))


def block(turn, data):
    """The sectors of a block."""
    rest = fixed(len(data), 4) + data
    many = -(-len(rest) // 54)
    rest += [0] * (54 * many - len(rest))
    return [fixed(turn, 6) + fixed(many, 4) + rest[54 * at:54 * at + 54] for at in range(many)]


def head(turn, area):
    return [ord(letter) for letter in "RULE"] + fixed(turn, 6) + [area] + [0] * 53


class PlainStore:
    """What a store writes, told as a list of sectors; power does not fail while it does."""

    def __init__(self, sectors):
        """A new disk, before its first opening."""
        self.area_size = (sectors - 2) // 2
        self.sectors = [[0] * SECTOR for _ in range(sectors)]
        self.writes = self.syncs = 0
        self.commits, self.items = 0, []
        self.place, self.turn, self.area, self.used = 1, 0, 1, 0

    def open(self):
        """An opening; unless there is no head yet, the areas are looked through for turns."""
        if self.turn:
            sectors = self.sectors[2:2 + 2 * self.area_size]
            self.turn = max([self.turn] + [int.from_bytes(bytes(sector[:6]), "big") for sector in sectors])
        self.renew(self.commits, self.items)

    def put(self, start, sectors):
        for at, sector in enumerate(sectors):
            self.sectors[start + at] = sector
        self.writes += len(sectors)
        self.syncs += 1

    def renew(self, commits, items):
        self.turn, self.place, self.area = self.turn + 1, 1 - self.place, 1 - self.area
        image = block(self.turn, plain_codes.image(commits, items))
        self.put(2 + self.area * self.area_size, image)
        self.put(self.place, [head(self.turn, self.area)])
        self.used = len(image)

    def fits(self, changes):
        made = plain.changed(self.items, changes)
        return len(block(1, plain_codes.image(self.commits + 1, made))) <= self.area_size

    def commit(self, changes):
        made = plain.changed(self.items, changes)
        group = block(self.turn, plain_codes.changes(changes))
        if self.used + len(group) <= self.area_size:
            self.put(2 + self.area * self.area_size + self.used, group)
            self.used += len(group)
        else:
            self.renew(self.commits + 1, made)
        self.commits, self.items = self.commits + 1, made
