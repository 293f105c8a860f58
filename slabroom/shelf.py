"""Shelves: a page each, with slots for things of one size."""

from heapq import heappop, heappush

from slabroom.errors import NoRoom, NotOut


class Shelf:
    """A shelf, and which of its slots are out."""

    def __init__(self, page, size, slots):
        self.page = page
        self.size = size
        # A heap, as rising numbers are: its first one is the least.
        self._free = list(range(slots))
        self._taken = {}

    def out(self):
        """Return how many things are out."""
        return len(self._taken)

    def free(self):
        """Return a list of the free slots, rising."""
        return sorted(self._free)

    def take(self):
        """Return the least free slot, which is out from now on."""
        if not self._free:
            raise NoRoom("no slot of the shelf is free")
        slot = heappop(self._free)
        self._taken[slot] = True
        return slot

    def give(self, slot):
        """Make a slot that is out free again."""
        if slot not in self._taken:
            raise NotOut("no thing is out on this slot")
        del self._taken[slot]
        heappush(self._free, slot)
