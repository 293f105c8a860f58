"""Gathering: point 10 of the document."""

from slabroom.errors import NoRoom, NoSize, NotOut
from tests.helper import NO_WHOLE_NUMBERS, ROOMS, Dice, RefusalCase, VERY_GREAT, made_room, state, used_rooms, written


def marked_room(pages, length, sizes, wishes):
    """A room in which each thing holds the place at which it began at first."""
    room = made_room(pages, length, sizes)
    for places in wishes:
        place = room.wish(places)
        room.write(place, 0, place)
    return room


def wish_and_fill(room, size):
    """Wish for a thing; where there is room for it, write a number of its own at each of its places."""
    try:
        place = room.wish(size)
    except NoRoom:
        return
    for step in range(size):
        room.write(place, step, 100 * place + step + 1)


def thinned_room(pages, length, sizes, seed):
    """A room that is filled with things of several sizes, of which then most are given back."""
    dice = Dice(seed)
    room = made_room(pages, length, sizes)
    for _ in range(pages):
        size = dice.one_of(sizes)
        for _ in range(length // size):
            wish_and_fill(room, size)
    # So that things are not all got by places rising.
    for _ in range(20):
        place, size = dice.one_of(room.things())
        room.give_back(place)
        wish_and_fill(room, size)
    for place, _ in room.things():
        if dice.below(5) > 1:
            room.give_back(place)
    return room


def reckoned(room, length, size):
    """The moves of gathering, and what is held where then, from what the room tells of itself."""
    slots = length // size
    counted = sorted((-out, page) for page, of, out in room.shelves() if of == size)
    things = -sum(out for out, _ in counted)
    staying = sorted(page for _, page in counted[:-(-things // slots)])
    held = written(room)
    free = [page * length + slot * size for page in staying for slot in range(slots)]
    free = [place for place in free if place not in held]
    old = [place for place, of in room.things() if of == size and place // length not in staying]
    moves = list(zip(old, free))
    for before, now in moves:
        held[now] = held.pop(before)
    leaving = [page for _, page in counted if page not in staying]
    return moves, held, leaving


class Gathering(RefusalCase):

    def test_the_fullest_shelves_stay(self):
        room = marked_room(4, 6, [2], [2] * 12)
        for place in (2, 4, 6, 18, 20):
            room.give_back(place)
        # The pages 0 to 3 have 1, 2, 3 and 1 things out: 7 need 3 shelves of 3 slots.
        self.assertEqual(room.shelves(), [(0, 2, 1), (1, 2, 2), (2, 2, 3), (3, 2, 1)])
        self.assertEqual(room.gather(2), [(22, 2)])
        self.assertEqual(room.shelves(), [(0, 2, 2), (1, 2, 2), (2, 2, 3)])
        self.assertEqual(room.pile(), [3])
        self.assertEqual(room.things(), [(place, 2) for place in (0, 2, 8, 10, 12, 14, 16)])
        self.assertEqual(room.read(2, 0), 22)

    def test_the_fullest_shelf_stays_which_is_not_of_the_least_page(self):
        room = marked_room(3, 6, [2], [2] * 9)
        for place in (2, 4, 6, 12, 14, 16):
            room.give_back(place)
        self.assertEqual(room.shelves(), [(0, 2, 1), (1, 2, 2), (2, 2, 0)])
        self.assertEqual(room.gather(2), [(0, 6)])
        self.assertEqual((room.shelves(), room.pile()), ([(1, 2, 3)], [0, 2]))
        self.assertEqual(written(room), {6: [0, 0], 8: [8, 0], 10: [10, 0]})

    def test_of_like_ones_those_of_the_least_pages_stay(self):
        room = marked_room(4, 6, [2], [2] * 12)
        for place in (0, 4, 6, 8, 12, 14, 20, 22):
            room.give_back(place)
        self.assertEqual(room.shelves(), [(0, 2, 1), (1, 2, 1), (2, 2, 1), (3, 2, 1)])
        self.assertEqual(room.gather(2), [(16, 0), (18, 4)])
        self.assertEqual((room.shelves(), room.pile()), ([(0, 2, 3), (1, 2, 1)], [2, 3]))

    def test_moves_go_by_places_rising_to_the_least_place_each(self):
        room = marked_room(5, 6, [1], [1] * 30)
        for place in (3, 13, 17, 1):
            room.give_back(place)
        for place in (6, 7, 9, 10, 11, 18, 20, 21, 22, 23, 24, 25, 26, 28, 29):
            room.give_back(place)
        self.assertEqual(room.shelves(), [(0, 1, 4), (1, 1, 1), (2, 1, 4), (3, 1, 1), (4, 1, 1)])
        self.assertEqual(room.gather(1), [(8, 1), (19, 3), (27, 13)])
        self.assertEqual((room.shelves(), room.pile()), ([(0, 1, 6), (2, 1, 5)], [1, 3, 4]))
        self.assertEqual([room.read(place, 0) for place in (1, 3, 13)], [8, 19, 27])

    def test_moves_go_by_places_rising_also_of_things_got_otherwise(self):
        room = marked_room(3, 4, [1], [1] * 12)
        room.give_back(4)
        room.wish(1)
        room.write(4, 0, 4)
        for place in (6, 7, 0, 9):
            room.give_back(place)
        self.assertEqual(room.shelves(), [(0, 1, 3), (1, 1, 2), (2, 1, 3)])
        self.assertEqual(room.gather(1), [(4, 0), (5, 9)])
        self.assertEqual([room.read(place, 0) for place in (0, 9)], [4, 5])

    def test_the_least_free_place_is_not_on_the_fullest_shelf(self):
        room = marked_room(3, 8, [2], [2] * 12)
        for place in (2, 4, 10, 16, 18, 20):
            room.give_back(place)
        self.assertEqual(room.shelves(), [(0, 2, 2), (1, 2, 3), (2, 2, 1)])
        self.assertEqual(room.gather(2), [(22, 2)])
        self.assertEqual(room.shelves(), [(0, 2, 3), (1, 2, 3)])

    def test_all_that_a_thing_holds_goes_with_it(self):
        room = made_room(2, 8, [4])
        for place in (0, 4, 8):
            self.assertEqual(room.wish(3), place)
            for step in range(4):
                room.write(place, step, 10 * place + step)
        room.write(8, 3, -10 ** 40)
        room.give_back(0)
        self.assertEqual(room.gather(4), [(8, 0)])
        self.assertEqual(written(room), {0: [80, 81, 82, -10 ** 40], 4: [40, 41, 42, 43]})

    def test_shelves_with_nothing_out_are_given_back(self):
        room = marked_room(3, 4, [2], [2] * 3)
        room.give_back(4)
        self.assertEqual(room.gather(2), [])
        self.assertEqual((room.shelves(), room.pile()), ([(0, 2, 2)], [1, 2]))
        room.give_back(0)
        room.give_back(2)
        self.assertEqual(room.shelves(), [(0, 2, 0)])
        self.assertEqual(room.gather(2), [])
        self.assertEqual((room.shelves(), room.pile()), ([], [0, 1, 2]))

    def test_a_size_without_shelves(self):
        for pages, length, sizes in ROOMS:
            room = made_room(pages, length, sizes)
            for size in sizes:
                self.assertEqual(room.gather(size), [])
            room.wish(sizes[0])
            before = state(room)
            for size in sizes[1:]:
                self.assertEqual(room.gather(size), [])
            self.assertEqual(state(room), before)

    def test_shelves_of_other_sizes_stay(self):
        room = marked_room(5, 6, [2, 3], [2] * 6 + [3] * 4)
        for place in (0, 2, 6, 8, 15, 21):
            room.give_back(place)
        self.assertEqual(room.gather(2), [(10, 0)])
        self.assertEqual(room.shelves(), [(0, 2, 2), (2, 3, 1), (3, 3, 1)])
        self.assertEqual(room.pile(), [1, 4])
        self.assertEqual(room.gather(3), [(18, 15)])
        self.assertEqual(room.shelves(), [(0, 2, 2), (2, 3, 2)])

    def test_an_unused_shelf_of_another_size_stays(self):
        room = marked_room(3, 6, [2, 3], [2, 3])
        room.give_back(6)
        self.assertEqual(room.gather(2), [])
        self.assertEqual((room.shelves(), room.pile()), ([(0, 2, 1), (1, 3, 0)], [2]))

    def test_slots_of_the_shelves_that_stay_are_free_or_out_as_they_should(self):
        room = marked_room(2, 6, [2], [2] * 4)
        room.give_back(0)
        room.give_back(4)
        self.assertEqual(room.gather(2), [(6, 0)])
        self.assertEqual(room.wish(2), 4)
        self.assertEqual(room.wish(2), 6)
        room.give_back(0)
        self.assertEqual(room.wish(2), 0)


class ByReckoning(RefusalCase):

    def assert_gathered(self, room, length, size):
        moves, held, leaving = reckoned(room, length, size)
        things = sorted((place, len(held[place])) for place in held)
        pile = sorted(room.pile() + leaving)
        others = [row for row in room.shelves() if row[1] != size]
        self.assertEqual(room.gather(size), moves)
        self.assertEqual((room.things(), room.pile(), written(room)), (things, pile, held))
        self.assertEqual([row for row in room.shelves() if row[1] != size], others)
        for page, of, out in room.shelves():
            self.assertEqual(out, len([place for place, _ in things if place // length == page]))
        return moves

    def test_several_rooms_and_sizes(self):
        moved = 0
        for pages, length, sizes in ROOMS:
            for seed in range(8):
                room = thinned_room(pages, length, sizes, seed)
                for size in sizes:
                    moved += len(self.assert_gathered(room, length, size))
        self.assertGreater(moved, 100)

    def test_behind_many_deeds(self):
        for room, keeping in used_rooms(deeds=90):
            for size in keeping.sizes[::-1]:
                self.assert_gathered(room, keeping.length, size)

    def test_gathering_once_more_moves_nothing(self):
        for pages, length, sizes in ROOMS:
            for seed in range(4):
                room = thinned_room(pages, length, sizes, seed)
                for size in sizes:
                    room.gather(size)
                    before = state(room)
                    self.assertEqual(room.gather(size), [])
                    self.assertEqual(state(room), before)

    def test_at_the_least_as_many_shelves_as_are_needed(self):
        for pages, length, sizes in ROOMS:
            room = thinned_room(pages, length, sizes, 5)
            for size in sizes:
                room.gather(size)
                things = [place for place, of in room.things() if of == size]
                shelves = [page for page, of, _ in room.shelves() if of == size]
                slots = length // size
                self.assertEqual(len(shelves), (len(things) + slots - 1) // slots)

    def test_a_place_that_was_left_has_nothing_out(self):
        for seed in range(6):
            room = thinned_room(4, 7, [2, 3], seed)
            for size in (2, 3):
                for old, _ in room.gather(size):
                    self.assert_refused(NotOut, room.give_back, old)
                    self.assert_refused(NotOut, room.read, old, 0)

    def test_a_list_of_moves_is_the_askers_own(self):
        room = marked_room(2, 6, [2], [2] * 4)
        room.give_back(0)
        moves = room.gather(2)
        self.assertEqual(moves, [(6, 0)])
        before = state(room)
        moves.clear()
        self.assertEqual(state(room), before)


class NoSuchSize(RefusalCase):

    def test_sizes_that_the_plan_does_not_have(self):
        for room, keeping in used_rooms(deeds=30, seeds=1):
            before = state(room)
            for size in list(range(-3, 70)) + [VERY_GREAT, -VERY_GREAT]:
                if size not in keeping.sizes:
                    self.assert_refused(NoSize, room.gather, size)
            self.assertEqual(state(room), before)

    def test_what_is_no_whole_number(self):
        for room, _ in used_rooms(deeds=30, seeds=1):
            before = state(room)
            for size in NO_WHOLE_NUMBERS:
                self.assert_refused(NoSize, room.gather, size)
            self.assertEqual(state(room), before)

    def test_true_is_not_the_size_one(self):
        room = marked_room(2, 3, [1], [1] * 4)
        room.give_back(0)
        before = state(room)
        self.assert_refused(NoSize, room.gather, True)
        self.assertEqual(state(room), before)
        self.assertEqual(room.gather(1), [(3, 0)])
