"""A disk whose writes wait for a sync, and whose power can fail."""
from rulestead.errors import InvalidArgument, PowerOff

LEAST_SECTORS = 60
MOST_SECTORS = 400
SECTOR_BYTES = 64


class Disk:
    """Sectors of 64 bytes, at first zeros."""

    def __init__(self, sectors):
        if not isinstance(sectors, int) or isinstance(sectors, bool):
            raise InvalidArgument("the number of sectors is no integer")
        if sectors < LEAST_SECTORS or sectors > MOST_SECTORS:
            raise InvalidArgument("a disk has from 60 to 400 sectors")
        self.in_use = False
        # A sector is never changed in place, so both lists may have the same one.
        self.synced = [[0] * SECTOR_BYTES for _ in range(sectors)]
        self.written = list(self.synced)
        self.waiting = []
        self.writes = 0
        self.syncs = 0
        self.failures = 0
        self.on = True
        self.allowed = None

    def size(self):
        """The number of sectors."""
        return len(self.written)

    def read(self, index):
        """The bytes of a sector, as it was written last."""
        return list(self.written[index])

    def pending(self):
        """The number of waiting writes."""
        return len(self.waiting)

    def counts(self):
        """The pair of the numbers of writes and syncs that were made."""
        return (self.writes, self.syncs)

    def is_on(self):
        """True if power is on."""
        return self.on

    def losses(self):
        """How often power failed."""
        return self.failures

    def write(self, index, data):
        """Writes a sector; the write waits for a sync."""
        self._begin_operation()
        self.writes += 1
        self.written[index] = list(data)
        self.waiting.append((index, self.written[index]))

    def sync(self):
        """Makes all waiting writes arrive."""
        self._begin_operation()
        self.syncs += 1
        self._settle(self.waiting)

    def fail_after(self, operations):
        """Lets power fail after so many further operations."""
        if not self.on:
            raise PowerOff("power is off")
        self.allowed = operations

    def power(self, kept):
        """Lets power fail, if it has not yet, and come back; `kept` tells which waiting writes arrive."""
        if self.on:
            self._fail()
        self._settle([write for write, arrives in zip(self.waiting, kept) if arrives])
        self.on = True

    def _begin_operation(self):
        """Raises PowerOff if power is off or fails at this operation."""
        if self.allowed == 0:
            self._fail()
        if not self.on:
            raise PowerOff("power is off")
        if self.allowed is not None:
            self.allowed -= 1

    def _fail(self):
        """Power fails."""
        self.on = False
        self.in_use = False
        self.failures += 1
        self.allowed = None

    def _settle(self, arrived):
        """These writes arrive, and no write waits any more."""
        for index, data in arrived:
            self.synced[index] = data
        self.written = list(self.synced)
        self.waiting = []
