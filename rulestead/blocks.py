"""Blocks of bytes in sectors, the heads of a disk, and what is found on it."""
from rulestead.codes import Reader
from rulestead.errors import DamagedData

SECTOR_BYTES = 64
TURN_BYTES = 6
COUNT_BYTES = 4
PIECE_BYTES = 54
HEAD_MARK = (82, 85, 76, 69)
HEADS = 2


def fixed(number, many):
    """A number in so many bytes, the most significant first."""
    return [(number >> (8 * at)) & 255 for at in reversed(range(many))]


def number_of(data):
    """The number that has these bytes, the most significant first."""
    number = 0
    for byte in data:
        number = number * 256 + byte
    return number


def padded(data, many):
    """So many bytes: these, and then zeros."""
    return data + [0] * (many - len(data))


def turn_of(sector):
    """The turn of a sector of a block."""
    return number_of(sector[:TURN_BYTES])


def count_of(sector):
    """The number of sectors that a sector of a block tells."""
    return number_of(sector[TURN_BYTES:TURN_BYTES + COUNT_BYTES])


def write_block(turn, data):
    """The list of the sectors of a block."""
    held = fixed(len(data), COUNT_BYTES) + list(data)
    starts = range(0, len(held), PIECE_BYTES)
    start = fixed(turn, TURN_BYTES) + fixed(len(starts), COUNT_BYTES)
    return [start + padded(held[at:at + PIECE_BYTES], PIECE_BYTES) for at in starts]


def read_block(sectors, turn):
    """The pair of the bytes and the number of sectors of the block at the beginning, or None."""
    if not sectors or turn_of(sectors[0]) != turn:
        return None
    many = count_of(sectors[0])
    if not 1 <= many <= len(sectors) or any([turn_of(sector) != turn for sector in sectors[:many]]):
        return None
    held = []
    for sector in sectors[:many]:
        held.extend(sector[TURN_BYTES + COUNT_BYTES:])
    size = number_of(held[:COUNT_BYTES])
    if size > len(held) - COUNT_BYTES:
        return None
    return (held[COUNT_BYTES:COUNT_BYTES + size], many)


def head(turn, area):
    """The sector of a head."""
    return padded(list(HEAD_MARK) + fixed(turn, TURN_BYTES) + [area], SECTOR_BYTES)


def read_head(sector):
    """The pair of the turn and the area of a head, or None."""
    turn = number_of(sector[len(HEAD_MARK):len(HEAD_MARK) + TURN_BYTES])
    if turn < 1:
        return None
    for area in range(2):
        if sector == head(turn, area):
            return (turn, area)
    return None


def area_size(size):
    """The number of sectors of an area, on a disk with `size` sectors."""
    return (size - HEADS) // 2


def area_start(size, area):
    """The index of the first sector of an area."""
    return HEADS + area * area_size(size)


def read_area(disk, area):
    """The list of the sectors of an area."""
    start = area_start(disk.size(), area)
    return [disk.read(at) for at in range(start, start + area_size(disk.size()))]


def counting_head(disk):
    """The place, the turn and the area of the head that counts, or None."""
    counting = None
    for place in range(HEADS):
        told = read_head(disk.read(place))
        if told is not None and (counting is None or told[0] > counting[1]):
            counting = (place, told[0], told[1])
    return counting


def blocks_of(sectors, turn):
    """The list of the bytes of the blocks that stand one behind another, from the beginning on."""
    held = []
    rest = sectors
    block = read_block(rest, turn)
    while block is not None:
        held.append(block[0])
        rest = rest[block[1]:]
        block = read_block(rest, turn)
    return held


def found(disk):
    """None for a disk without a head, otherwise the place, turn and area of its head, the number of
    commits and the state after them."""
    counting = counting_head(disk)
    if counting is None:
        return None
    place, turn, area = counting
    blocks = blocks_of(read_area(disk, area), turn)
    if not blocks:
        raise DamagedData("there is no image for the head")
    commits, state = Reader(blocks[0]).read_image()
    for group in blocks[1:]:
        state = state.change(Reader(group).read_changes())
    return (place, turn, area, commits + len(blocks) - 1, state)
