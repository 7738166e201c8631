"""The store of a disk: its commits, none of which is lost or torn when power fails."""
from rulestead.blocks import area_size, area_start, found, head, read_area, turn_of, write_block
from rulestead.codes import write_changes, write_image
from rulestead.errors import DiskFull, PowerOff
from rulestead.states import State


def greatest_turn(disk, turn):
    """The greatest one of a turn and of those that the sectors of the two areas have."""
    sectors = read_area(disk, 0) + read_area(disk, 1)
    return max([turn] + [turn_of(sector) for sector in sectors])


class Store:
    """The number of the commits of a disk, and the state after them."""

    def __init__(self, disk):
        self.disk = disk
        self.commits = 0
        self.state = State()
        # Beside a head in sector 1 for area 1, the first image goes to area 0 and its head to sector 0.
        self.place = 1
        self.area = 1
        self.turn = 0
        self.greatest = 0
        self.used = 0
        known = found(disk)
        if known is not None:
            self.place, self.turn, self.area, self.commits, self.state = known
            self.greatest = greatest_turn(disk, self.turn)
        self._write_image(self.commits, self.state)

    def fits(self, changes):
        """True if a commit with these changes can be stored."""
        return self._can_hold(self.state.change(changes))

    def commit(self, changes):
        """Stores a commit with these changes."""
        if not self.disk.is_on():
            raise PowerOff("power is off")
        made = self.state.change(changes)
        if not self._can_hold(made):
            raise DiskFull("the state after the commit does not fit into an area")
        group = write_block(self.turn, write_changes(changes))
        if self.used + len(group) <= self._area_size():
            self._write_behind(group)
        else:
            self._write_image(self.commits + 1, made)
        self.commits += 1
        self.state = made

    def _area_size(self):
        """The number of sectors of an area."""
        return area_size(self.disk.size())

    def _can_hold(self, made):
        """True if the image of this state, after one more commit, fits into an area."""
        return len(write_block(self.turn, write_image(self.commits + 1, made))) <= self._area_size()

    def _put(self, start, sectors):
        """Writes sectors from a place on, and syncs them."""
        for at, sector in enumerate(sectors):
            self.disk.write(start + at, sector)
        self.disk.sync()

    def _write_behind(self, group):
        """Writes a group directly behind the image and the groups."""
        self._put(area_start(self.disk.size(), self.area) + self.used, group)
        self.used += len(group)

    def _write_image(self, commits, state):
        """Writes a new image into the other area, and its head into the other sector for heads."""
        # The turn counts as used even if power fails before the head is written.
        self.greatest += 1
        place = 1 - self.place
        area = 1 - self.area
        image = write_block(self.greatest, write_image(commits, state))
        self._put(area_start(self.disk.size(), area), image)
        self._put(place, [head(self.greatest, area)])
        self.place = place
        self.area = area
        self.turn = self.greatest
        self.used = len(image)
