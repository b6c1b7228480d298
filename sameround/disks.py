"""Disks: blocks that are written, and those that last when the power is cut."""

from sameround.errors import NoBlocks, NoCut, NoNumber, NoRow
from sameround.kinds import is_number_below
from sameround.rows import is_row, unsealed


class Disk:
    """Blocks, numbered as they are written, of which those from some number on wait."""

    def __init__(self):
        self._rows = []
        self._many_synced = 0

    def write(self, row):
        """Write a block behind the others; tell its number."""
        if not is_row(row):
            raise NoRow()
        self._rows.append(row)
        return len(self._rows) - 1

    def sync(self):
        """Let none wait any more; tell how many did."""
        waited = len(self._rows) - self._many_synced
        self._many_synced = len(self._rows)
        return waited

    def blocks(self):
        """The list of all blocks."""
        return list(self._rows)

    def synced(self):
        """How many blocks, from the first on, do not wait."""
        return self._many_synced

    def cut(self, kept):
        """Leave so many of the first bytes of each block that waits; none waits any more."""
        waiting = self._rows[self._many_synced:]
        if not is_cut(waiting, kept):
            raise NoCut()
        self._rows[self._many_synced:] = [row[:many] for row, many in zip(waiting, kept)]
        self._many_synced = len(self._rows)

    def drop(self, number):
        """Let go of the blocks from this number on."""
        if not is_number_below(len(self._rows) + 1, number):
            raise NoNumber()
        self._rows = self._rows[:number]
        self._many_synced = min(self._many_synced, number)

    def copy(self):
        """Another disk with these blocks."""
        other = Disk()
        other._rows = list(self._rows)
        other._many_synced = self._many_synced
        return other


def is_cut(waiting, thing):
    """Whether a thing is a tuple of how many bytes are left of each block that waits."""
    if not isinstance(thing, tuple) or len(thing) != len(waiting):
        return False
    return all([is_number_below(len(row) + 1, many) for row, many in zip(waiting, thing)])


def kept_parcels(blocks):
    """The list of the parcels of blocks, from the first on, as far as each is sealed of one."""
    if not isinstance(blocks, (list, tuple)) or not all([is_row(block) for block in blocks]):
        raise NoBlocks()
    parcels = []
    for block in blocks:
        told = unsealed(block)
        if told == ():
            break
        parcels.extend(told)
    return parcels
