"""What several test files use: wrong inputs, and a keeping of rooms of the tests' own."""

import unittest

from slabroom.errors import NoRoom, NotOut, OutOfThing
from slabroom.plans import Plan
from slabroom.room import Room

NO_WHOLE_NUMBERS = (True, False, "", "1", "three", None, 2.5, [1], (1,))

VERY_GREAT = 10 ** 6000

# Pages, length and sizes of rooms, small ones among them, that are full soon.
ROOMS = (
    (1, 1, [1]),
    (1, 10, [3, 4]),
    (2, 5, [1, 5]),
    (2, 8, [1, 2, 3, 4, 5, 6, 7, 8]),
    (3, 10, [4, 5]),
    (4, 7, [2, 3]),
    (4, 20, [2, 3, 8]),
    (5, 12, [2, 3, 4, 6]),
    (6, 9, [3]),
    (8, 11, [2, 5]),
    (40, 1, [1]),
    (40, 60, [1, 2, 5, 9, 20, 31, 59, 60]),
)


def told(value):
    """What is shown of a value where a test fails: Python does not write out every great number."""
    if value == VERY_GREAT or value == -VERY_GREAT:
        return "a very great number, or as much below 0"
    return repr(value)


class RefusalCase(unittest.TestCase):

    def assert_refused(self, kind, call, *given):
        """The call is refused with just this class, not with one under it."""
        try:
            answer = call(*given)
        except Exception as error:
            self.assertIs(type(error), kind, repr(error)[:200])
        else:
            self.fail("not refused: " + told(answer))


def made_room(pages, length, sizes):
    return Room(Plan(pages, length, list(sizes)))


def written(room):
    """All that is written in a room, by the places at which the things begin."""
    return {place: [room.read(place, step) for step in range(size)] for place, size in room.things()}


def state(room):
    """All that a room tells of itself."""
    return room.things(), room.shelves(), room.pile(), written(room)


class Dice:
    """Numbers that look like chance, and are the same ones in every run."""

    def __init__(self, seed):
        self.last = seed

    def below(self, limit):
        self.last = (self.last * 6364136223846793005 + 1442695040888963407) % 2 ** 64
        return (self.last >> 33) % limit

    def one_of(self, choices):
        return choices[self.below(len(choices))]


class Keeping:
    """A room, kept in a way of its own: what a page is and what is out, all else is counted anew.

    Its deeds answer as those of a room do, but tell the class of a refusal instead of raising it.
    """

    def __init__(self, pages, length, sizes):
        self.length = length
        self.sizes = sizes
        self.size_of = [0] * pages
        self.held = {}

    def begins(self, page):
        """The places at which the slots of a shelf begin."""
        size = self.size_of[page]
        begin = page * self.length
        end = begin + self.length
        return [place for place in range(begin, end) if (place - begin) % size == 0 and place + size <= end]

    def out(self, page):
        return [place for place in self.begins(page) if place in self.held]

    def free(self, page):
        return [place for place in self.begins(page) if place not in self.held]

    def pages_of(self, size):
        return [page for page in range(len(self.size_of)) if self.size_of[page] == size]

    def unused(self):
        return [page for page in range(len(self.size_of)) if self.size_of[page] and not self.out(page)]

    def wish(self, places):
        size = min(size for size in self.sizes if size >= places)
        most = -1
        for page in self.pages_of(size):
            if self.free(page) and len(self.out(page)) > most:
                most = len(self.out(page))
                chosen = page
        if most < 0:
            had = self.pile() or self.unused()
            if not had:
                return NoRoom
            chosen = had[0]
            self.size_of[chosen] = size
        place = self.free(chosen)[0]
        self.held[place] = [0] * size
        return place

    def give_back(self, place):
        if place not in self.held:
            return NotOut
        del self.held[place]
        page = place // self.length
        like = [other for other in self.unused() if self.size_of[other] == self.size_of[page]]
        if page in like and len(like) >= 2:
            self.size_of[page] = 0
        return None

    def trim(self):
        unused = self.unused()
        for page in unused:
            self.size_of[page] = 0
        return len(unused)

    def room_for(self, places):
        """Counted by wishing: in another keeping, until one is not met."""
        other = self.another()
        many = 0
        while other.wish(places) is not NoRoom:
            many += 1
        return many

    def another(self):
        other = Keeping(len(self.size_of), self.length, self.sizes)
        other.size_of = list(self.size_of)
        other.held = {place: list(self.held[place]) for place in self.held}
        return other

    def read(self, place, step):
        if place not in self.held:
            return NotOut
        if step not in range(len(self.held[place])):
            return OutOfThing
        return self.held[place][step]

    def write(self, place, step, number):
        before = self.read(place, step)
        if before in (NotOut, OutOfThing):
            return before
        self.held[place][step] = number
        return None

    def gather(self, size):
        pages = self.pages_of(size)
        things = sum(len(self.out(page)) for page in pages)
        pages.sort(key=lambda page: (-len(self.out(page)), page))
        staying = []
        while len(staying) * (self.length // size) < things:
            staying.append(pages.pop(0))
        moves = []
        for old in sorted(place for page in pages for place in self.out(page)):
            new = min(place for page in staying for place in self.free(page))
            self.held[new] = self.held.pop(old)
            moves.append((old, new))
        for page in pages:
            self.size_of[page] = 0
        return moves

    def things(self):
        return [(place, len(self.held[place])) for place in sorted(self.held)]

    def shelves(self):
        return [(page, size, len(self.out(page))) for page, size in enumerate(self.size_of) if size]

    def pile(self):
        return self.pages_of(0)

    def state(self):
        return self.things(), self.shelves(), self.pile(), self.held


def any_deed(dice, keeping, most_things):
    """The name and the arguments of a deed that a room of this kind may be asked for, refused ones among them."""
    ends = len(keeping.size_of) * keeping.length
    out = sorted(keeping.held)
    names = ["wish"] * 8 + ["give_back"] * 5 + ["write"] * 4 + ["read"] * 2 + ["trim", "room_for", "gather", "gather"]
    name = dice.one_of(names)
    if name == "wish" and len(out) >= most_things:
        name = "give_back"
    place = dice.below(ends + 4) - 2
    if out and dice.below(6):
        place = dice.one_of(out)
    if name in ("wish", "room_for"):
        return name, (1 + dice.below(keeping.sizes[-1]),)
    if name == "give_back":
        return name, (place,)
    if name == "read":
        return name, (place, dice.below(keeping.sizes[-1] + 2) - 1)
    if name == "write":
        number = dice.below(2001) - 1000
        if dice.below(5) == 0:
            number *= 10 ** 40
        return name, (place, dice.below(keeping.sizes[-1] + 2) - 1, number)
    if name == "gather":
        return name, (dice.one_of(keeping.sizes),)
    return name, ()


def answer(room, name, given):
    """What a room answers, or the class of its refusal."""
    try:
        return getattr(room, name)(*given)
    except (NoRoom, NotOut, OutOfThing) as error:
        return type(error)


def used_room(pages, length, sizes, seed, deeds):
    """A room behind many deeds, and its keeping."""
    room = made_room(pages, length, sizes)
    keeping = Keeping(pages, length, sizes)
    dice = Dice(seed)
    for _ in range(deeds):
        name, given = any_deed(dice, keeping, 60)
        answer(room, name, given)
        getattr(keeping, name)(*given)
    return room, keeping


def used_rooms(deeds=60, seeds=3):
    """Several rooms of each kind, with their keepings."""
    for pages, length, sizes in ROOMS:
        for seed in range(seeds):
            yield used_room(pages, length, sizes, seed, deeds)
