"""A disk that can lose its power at any operation (point [12])."""

from sameanswer.errors import InvalidArgument, PowerOff

SECTOR_SIZE = 256
FEWEST_SECTORS = 100
MOST_SECTORS = 600


class Disk:
    """A disk in memory: sectors that have arrived, and writes that wait for the next sync."""

    def __init__(self, sectors):
        if isinstance(sectors, bool) or not isinstance(sectors, int):
            raise InvalidArgument("the number of sectors is an integer")
        if sectors < FEWEST_SECTORS or sectors > MOST_SECTORS:
            raise InvalidArgument(f"a disk has from {FEWEST_SECTORS} to {MOST_SECTORS} sectors")
        self.in_use = False
        self._size = sectors
        # Only sectors that were written are in the dict; the others are zeros.
        self._arrived = {}
        self._waiting = []
        self._writes = 0
        self._syncs = 0
        self._on = True
        self._losses = 0
        # How many further operations are made before power fails, or None if no failure is set.
        self._left = None

    def size(self):
        """The number of sectors."""
        return self._size

    def read(self, index):
        """The list of the 256 bytes of a sector as it was written last, also while this waits or power is off."""
        for place, data in reversed(self._waiting):
            if place == index:
                return list(data)
        return list(self._arrived.get(index, (0,) * SECTOR_SIZE))

    def pending(self):
        """The number of writes that wait."""
        return len(self._waiting)

    def counts(self):
        """The pair of the numbers of writes and syncs that were made."""
        return self._writes, self._syncs

    def write(self, index, data):
        """Writes a sector, which waits until the next sync. Raises PowerOff if power is off or fails."""
        self._operate()
        self._waiting.append((index, tuple(data)))
        self._writes += 1

    def sync(self):
        """Makes all writes that wait arrive. Raises PowerOff if power is off or fails."""
        self._operate()
        self._settle(self._waiting)
        self._syncs += 1

    def fail_after(self, operations):
        """Sets power to fail after so many further operations. Raises PowerOff if power is off."""
        if not self._on:
            raise PowerOff("no failure can be set while power is off")
        self._left = operations

    def power(self, kept):
        """Lets power fail, unless it is off, and come back; kept tells of each write that waits whether it arrives."""
        if self._on:
            self._fail()
        self._settle([write for write, arrives in zip(self._waiting, kept) if arrives])
        self._on = True

    def is_on(self):
        """True if power is on."""
        return self._on

    def losses(self):
        """How often power failed."""
        return self._losses

    def _operate(self):
        """Begins an operation. Raises PowerOff if power is off or fails now."""
        if not self._on:
            raise PowerOff("power is off")
        if self._left == 0:
            self._fail()
            raise PowerOff("power fails")
        if self._left is not None:
            self._left -= 1

    def _fail(self):
        """Power fails: the disk is not in use any more, and no failure is set. Writes that wait still wait."""
        self._on = False
        self._left = None
        self._losses += 1
        self.in_use = False

    def _settle(self, writes):
        """These writes arrive, in order, and none waits any more."""
        for place, data in writes:
            self._arrived[place] = data
        self._waiting = []
