"""Giving back and trimming: points 6 and 7 of the document."""

from slabroom.errors import NotOut
from tests.helper import ROOMS, RefusalCase, VERY_GREAT, made_room, state, used_rooms


def filled_room(pages, length, sizes, wishes):
    room = made_room(pages, length, sizes)
    for places in wishes:
        room.wish(places)
    return room


class GivingBack(RefusalCase):

    def test_the_thing_is_out_no_more(self):
        room = filled_room(4, 20, [2, 3, 8], [3, 8, 1, 3, 8])
        self.assertIsNone(room.give_back(28))
        self.assertEqual(room.things(), [(0, 3), (3, 3), (20, 8), (40, 2)])
        self.assertEqual(room.shelves(), [(0, 3, 2), (1, 8, 1), (2, 2, 1)])
        self.assertIsNone(room.give_back(0))
        self.assertEqual(room.things(), [(3, 3), (20, 8), (40, 2)])
        self.assertEqual(room.shelves(), [(0, 3, 1), (1, 8, 1), (2, 2, 1)])
        self.assertEqual(room.wish(2), 42)
        self.assertEqual(room.wish(3), 0)

    def test_each_thing_of_many(self):
        for room, keeping in used_rooms():
            for place, size in room.things()[::2]:
                self.assertIsNone(room.give_back(place))
                keeping.give_back(place)
                self.assertEqual(state(room), keeping.state())

    def test_the_last_slot_of_each_page(self):
        for pages, length, sizes in ROOMS:
            size = sizes[0]
            many = length // size
            room = filled_room(pages, length, sizes, [size] * (pages * many))
            for page in range(pages):
                self.assertIsNone(room.give_back(page * length + (many - 1) * size))
            self.assertEqual(len(room.things()), pages * (many - 1))


class TheShelf(RefusalCase):

    def test_the_only_one_with_nothing_out_stays(self):
        room = filled_room(3, 4, [2], [2, 2, 2])
        room.give_back(4)
        self.assertEqual((room.shelves(), room.pile()), ([(0, 2, 2), (1, 2, 0)], [2]))

    def test_the_only_one_of_its_size_stays(self):
        for pages, length, sizes in ROOMS:
            for size in sizes:
                room = filled_room(pages, length, sizes, [size])
                room.give_back(0)
                self.assertEqual(room.shelves(), [(0, size, 0)])
                self.assertEqual(room.pile(), list(range(1, pages)))

    def test_it_is_given_back_where_another_one_has_nothing_out(self):
        room = filled_room(4, 4, [2], [2] * 6)
        for place in (4, 6, 8):
            room.give_back(place)
        self.assertEqual((room.shelves(), room.pile()), ([(0, 2, 2), (1, 2, 0), (2, 2, 1)], [3]))
        room.give_back(10)
        # The thing's own shelf is given back, and the other one stays.
        self.assertEqual((room.shelves(), room.pile()), ([(0, 2, 2), (1, 2, 0)], [2, 3]))

    def test_it_is_given_back_where_the_other_one_is_of_a_greater_page(self):
        room = filled_room(4, 4, [2], [2] * 6)
        for place in (8, 10, 0, 2):
            room.give_back(place)
        self.assertEqual((room.shelves(), room.pile()), ([(1, 2, 2), (2, 2, 0)], [0, 3]))
        room.give_back(4)
        self.assertEqual((room.shelves(), room.pile()), ([(1, 2, 1), (2, 2, 0)], [0, 3]))

    def test_it_stays_where_it_has_things_out(self):
        room = filled_room(3, 4, [1], [1] * 12)
        for place in (0, 1, 2, 3):
            room.give_back(place)
        for place in (4, 5, 6):
            room.give_back(place)
            self.assertEqual(room.pile(), [])
        room.give_back(7)
        self.assertEqual((room.shelves(), room.pile()), ([(0, 1, 0), (2, 1, 4)], [1]))

    def test_it_stays_where_the_other_one_is_of_another_size(self):
        room = filled_room(4, 4, [1, 2, 4], [1, 2, 4])
        for place in (0, 4, 8):
            room.give_back(place)
        self.assertEqual((room.shelves(), room.pile()), ([(0, 1, 0), (1, 2, 0), (2, 4, 0)], [3]))

    def test_there_are_never_two_of_a_size_with_nothing_out(self):
        for room, keeping in used_rooms():
            for place, _ in room.things():
                room.give_back(place)
                unused = [size for _, size, out in room.shelves() if out == 0]
                self.assertEqual(len(unused), len(set(unused)))


class NoThing(RefusalCase):

    def assert_none_at(self, room, places):
        before = state(room)
        for place in places:
            self.assert_refused(NotOut, room.give_back, place)
            self.assertEqual(state(room), before)

    def test_in_a_room_with_nothing_out(self):
        for pages, length, sizes in ROOMS:
            self.assert_none_at(made_room(pages, length, sizes), range(-3, pages * length + 3))

    def test_a_place_that_is_no_things_first_one(self):
        for room, keeping in used_rooms():
            first = [place for place, _ in room.things()]
            ends = len(keeping.size_of) * keeping.length
            others = [place for place in range(ends) if place not in first]
            self.assert_none_at(room, others[:100] + others[-20:])

    def test_a_thing_that_lies_there_but_begins_before(self):
        room = filled_room(2, 10, [4], [4, 4, 4])
        self.assert_none_at(room, (1, 2, 3, 5, 6, 7, 11, 12, 13))

    def test_what_is_left_at_the_end_of_a_page(self):
        room = filled_room(2, 10, [4], [4, 4, 4, 4])
        self.assert_none_at(room, (8, 9, 18, 19))

    def test_a_free_slot(self):
        room = filled_room(2, 12, [4], [4])
        self.assert_none_at(room, (4, 8, 12, 16))

    def test_beyond_the_last_page_and_below_0(self):
        for pages, length, sizes in ROOMS:
            room = filled_room(pages, length, sizes, [1] * (pages * (length // sizes[0])))
            ends = pages * length
            beyond = [ends, ends + 1, ends + length, 2 * ends, VERY_GREAT]
            below = [-1, -2, -sizes[0], -length, -ends, -ends - 1, -VERY_GREAT]
            self.assert_none_at(room, beyond + below)

    def test_a_thing_that_was_given_back_already(self):
        room = filled_room(3, 4, [2], [2, 2, 2])
        room.give_back(2)
        self.assert_none_at(room, (2,))
        room.give_back(4)
        self.assert_none_at(room, (2, 4))
        room.give_back(0)
        # Its shelf was given back with it, and a page of the pile has no things.
        self.assertEqual(room.pile(), [0, 2])
        self.assert_none_at(room, (0, 2, 4))

    def test_a_thing_of_the_size_that_the_page_had_before(self):
        room = filled_room(1, 12, [2, 3], [2, 2, 2, 2])
        for place in (0, 2, 4, 6):
            room.give_back(place)
        self.assertEqual([room.wish(3) for _ in range(3)], [0, 3, 6])
        self.assert_none_at(room, (2, 4))
        room.give_back(6)
        self.assertEqual(room.things(), [(0, 3), (3, 3)])


class Trimming(RefusalCase):

    def test_nothing_to_trim(self):
        for pages, length, sizes in ROOMS:
            room = made_room(pages, length, sizes)
            self.assertEqual(room.trim(), 0)
            room.wish(1)
            before = state(room)
            self.assertEqual(room.trim(), 0)
            self.assertEqual(state(room), before)

    def test_all_shelves_with_nothing_out(self):
        room = filled_room(5, 4, [1, 2, 3, 4], [1, 2, 3, 4])
        for place in (0, 8, 12):
            room.give_back(place)
        self.assertEqual(room.pile(), [4])
        self.assertEqual(room.trim(), 3)
        self.assertEqual((room.shelves(), room.pile()), ([(1, 2, 1)], [0, 2, 3, 4]))
        self.assertEqual(room.things(), [(4, 2)])
        self.assertEqual(room.trim(), 0)

    def test_one_shelf(self):
        for pages, length, sizes in ROOMS:
            room = filled_room(pages, length, sizes, [1])
            room.give_back(0)
            self.assertEqual(room.trim(), 1)
            self.assertEqual(state(room), ([], [], list(range(pages)), {}))

    def test_behind_many_deeds(self):
        for room, keeping in used_rooms():
            unused = [page for page, _, out in room.shelves() if out == 0]
            shelves = [row for row in room.shelves() if row[2] > 0]
            pile = sorted(room.pile() + unused)
            things = room.things()
            self.assertEqual(room.trim(), len(unused))
            self.assertEqual((room.things(), room.shelves(), room.pile()), (things, shelves, pile))
            self.assertEqual(room.trim(), 0)
            self.assertEqual(state(room)[3], keeping.held)

    def test_more_than_one_thing_given_back_before(self):
        for room, _ in used_rooms():
            for place, _ in room.things():
                room.give_back(place)
            shelves = room.shelves()
            self.assertEqual(room.trim(), len(shelves))
            self.assertEqual((room.things(), room.shelves()), ([], []))
