"""Rooms: things on shelves, what they hold, and the pile of the pages that are no shelf."""

from slabroom.errors import NoRoom, NotOut, OutOfThing
from slabroom.shelf import Shelf


def fullest_first(shelf):
    """Return what to sort shelves by: the most things out first, of like ones the least page."""
    return (-shelf.out(), shelf.page)


class Room:
    """A room by a plan."""

    def __init__(self, plan):
        self._plan = plan
        # By their pages; each page that is not among them lies on the pile.
        self._shelves = {}
        # The numbers that each thing holds, by the place at which it begins.
        self._held = {}

    def wish(self, places):
        """Return the place at which a new thing of at least so many places begins."""
        size = self._plan.size_for(places)
        place = self._take_place(self._shelf_for(size))
        self._held[place] = [0] * size
        return place

    def give_back(self, place):
        """Give back the thing that begins at this place, and its shelf if that is one too many."""
        self._check_out(place)
        shelf = self._shelves[self._page_of(place)]
        begin = shelf.page * self._plan.length
        shelf.give((place - begin) // shelf.size)
        del self._held[place]
        unused = [other for other in self._unused() if other.size == shelf.size]
        if shelf.out() == 0 and len(unused) > 1:
            self._give_back_shelves([shelf])

    def trim(self):
        """Give back all shelves with nothing out; return how many they were."""
        unused = self._unused()
        self._give_back_shelves(unused)
        return len(unused)

    def room_for(self, places):
        """Return how many such wishes would be met from now on."""
        size = self._plan.size_for(places)
        slots = sum([len(shelf.free()) for shelf in self._of_size(size)])
        others = [shelf for shelf in self._unused() if shelf.size != size]
        pages = len(self.pile()) + len(others)
        return slots + pages * self._plan.per(size)

    def read(self, place, step):
        """Return what is written in the thing that begins at this place, so many steps on."""
        self._check_step(place, step)
        return self._held[place][step]

    def write(self, place, step, number):
        """Write a number into the thing that begins at this place, so many steps on."""
        self._check_step(place, step)
        self._held[place][step] = number

    def gather(self, size):
        """Bring the things of this size together on as few shelves as can be; return the moves."""
        per = self._plan.per(size)
        shelves = sorted(self._of_size(size), key=fullest_first)
        things = sum([shelf.out() for shelf in shelves])
        needed = (things + per - 1) // per
        staying = shelves[:needed]
        leaving = shelves[needed:]
        moves = self._move_things(leaving, staying)
        self._give_back_shelves(leaving)
        return moves

    def things(self):
        """Return the things that are out as pairs (place, size), rising."""
        return sorted([(place, len(self._held[place])) for place in self._held])

    def shelves(self):
        """Return the shelves as triples (page, size, how many things are out), by pages rising."""
        return [(shelf.page, shelf.size, shelf.out()) for shelf in self._all()]

    def pile(self):
        """Return the pages of the pile, rising."""
        return [page for page in range(self._plan.pages) if page not in self._shelves]

    def _all(self):
        """Return all shelves, by pages rising."""
        return [self._shelves[page] for page in sorted(self._shelves)]

    def _of_size(self, size):
        """Return the shelves of this size, by pages rising."""
        return [shelf for shelf in self._all() if shelf.size == size]

    def _unused(self):
        """Return the shelves with nothing out, by pages rising."""
        return [shelf for shelf in self._all() if shelf.out() == 0]

    def _page_of(self, place):
        """Return the page on which this place is."""
        return place // self._plan.length

    def _check_out(self, place):
        """Refuse a place at which no thing that is out begins."""
        if place not in self._held:
            raise NotOut("no thing that is out begins at this place")

    def _check_step(self, place, step):
        """Refuse a place at which no thing begins, and a step that leads out of the thing."""
        self._check_out(place)
        if step < 0 or step >= len(self._held[place]):
            raise OutOfThing("the thing has no such step")

    def _shelf_for(self, size):
        """Return the shelf on which the next thing of this size goes, a new one if need be."""
        shelves = [shelf for shelf in self._of_size(size) if shelf.free()]
        if shelves:
            return min(shelves, key=fullest_first)
        page = self._page_for_shelf()
        # An unused shelf that was there is given back by being replaced.
        self._shelves[page] = Shelf(page, size, self._plan.per(size))
        return self._shelves[page]

    def _page_for_shelf(self):
        """Return the page that is to become the next shelf."""
        pages = self.pile()
        if not pages:
            pages = [shelf.page for shelf in self._unused()]
        if not pages:
            raise NoRoom("no slot is free and no page can be had")
        return pages[0]

    def _take_place(self, shelf):
        """Take the least free slot of a shelf; return the place at which it begins."""
        return shelf.page * self._plan.length + shelf.take() * shelf.size

    def _give_back_shelves(self, shelves):
        """Put the pages of these shelves on the pile."""
        for shelf in shelves:
            del self._shelves[shelf.page]

    def _move_things(self, leaving, staying):
        """Move the things of the one shelves to the least free places of the others; return the moves."""
        pages = [shelf.page for shelf in leaving]
        places = [place for place in sorted(self._held) if self._page_of(place) in pages]
        # The least free place is on the least page that has one.
        rising = sorted(staying, key=lambda shelf: shelf.page)
        moves = []
        for place in places:
            with_room = [shelf for shelf in rising if shelf.free()]
            new = self._take_place(with_room[0])
            self._held[new] = self._held.pop(place)
            moves.append((place, new))
        return moves
