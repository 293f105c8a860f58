"""Wishes, and the room for them: points 1, 4, 5 and 8 of the document."""

import inspect

from slabroom.errors import BadWish, NoRoom, TooLarge
from slabroom.plans import Plan
from slabroom.room import Room
from tests.helper import NO_WHOLE_NUMBERS, ROOMS, RefusalCase, VERY_GREAT, made_room, state, used_rooms

METHODS = {
    "wish": ["places"],
    "give_back": ["place"],
    "trim": [],
    "room_for": ["places"],
    "read": ["place", "step"],
    "write": ["place", "step", "number"],
    "gather": ["size"],
    "things": [],
    "shelves": [],
    "pile": [],
}


def wish_until_refused(room, places):
    """The answers to wishes of one kind, one behind another until one is refused."""
    answers = []
    while True:
        try:
            answers.append(room.wish(places))
        except NoRoom:
            return answers


class Interface(RefusalCase):

    def test_the_class_is_defined_in_the_file_room(self):
        self.assertEqual(Room.__module__, "slabroom.room")

    def test_the_methods_are_defined_in_the_class_itself(self):
        for name in METHODS:
            with self.subTest(name):
                self.assertIn(name, vars(Room))

    def test_the_names_of_the_arguments(self):
        self.assertEqual(list(inspect.signature(Room).parameters), ["plan"])
        for name in METHODS:
            with self.subTest(name):
                self.assertEqual(list(inspect.signature(getattr(Room, name)).parameters)[1:], METHODS[name])

    def test_the_arguments_by_keyword(self):
        room = Room(plan=Plan(2, 6, [3]))
        self.assertEqual(room.room_for(places=1), 4)
        self.assertEqual(room.wish(places=3), 0)
        room.write(place=0, step=2, number=7)
        self.assertEqual(room.read(place=0, step=2), 7)
        self.assertEqual(room.gather(size=3), [])
        room.give_back(place=0)
        self.assertEqual(room.trim(), 1)

    def test_the_kinds_of_the_answers(self):
        room = made_room(3, 4, [2])
        for _ in range(3):
            self.assertIs(type(room.wish(1)), int)
        self.assertIs(type(room.room_for(2)), int)
        self.assertIsNone(room.write(4, 0, 5))
        self.assertIs(type(room.read(4, 0)), int)
        self.assertIsNone(room.give_back(0))
        for told in (room.things(), room.shelves(), room.gather(2)):
            self.assertIs(type(told), list)
            self.assertNotEqual(told, [])
            for row in told:
                self.assertIs(type(row), tuple)
        self.assertIs(type(room.pile()), list)
        self.assertIs(type(room.trim()), int)


class AtFirst(RefusalCase):

    def test_all_pages_lie_on_the_pile(self):
        for pages, length, sizes in ROOMS:
            room = made_room(pages, length, sizes)
            self.assertEqual(state(room), ([], [], list(range(pages)), {}))

    def test_the_plan_stays_as_it_was(self):
        for pages, length, sizes in ROOMS:
            plan = Plan(pages, length, list(sizes))
            own = plan.sizes
            room = Room(plan)
            for places in range(1, sizes[-1] + 1):
                room.room_for(places)
                wish_until_refused(room, places)
            for size in sizes:
                room.gather(size)
            for place, _ in room.things():
                room.give_back(place)
            room.trim()
            self.assertEqual((plan.pages, plan.length, plan.sizes), (pages, length, sizes))
            self.assertIs(plan.sizes, own)


class Places(RefusalCase):

    def test_each_slot_of_each_page(self):
        for pages, length, sizes in ROOMS:
            for size in sizes:
                with self.subTest(pages=pages, length=length, size=size):
                    expected = [
                        page * length + slot * size
                        for page in range(pages)
                        for slot in range(length // size)
                    ]
                    self.assertEqual(wish_until_refused(made_room(pages, length, sizes), size), expected)

    def test_what_is_left_at_the_end_of_a_page_is_nobodys(self):
        room = made_room(3, 10, [4])
        self.assertEqual(wish_until_refused(room, 4), [0, 4, 10, 14, 20, 24])
        room = made_room(2, 11, [1, 6])
        self.assertEqual(wish_until_refused(room, 6), [0, 11])
        self.assert_refused(NoRoom, room.wish, 1)

    def test_no_two_things_have_a_place_in_common(self):
        for room, keeping in used_rooms():
            ends = len(keeping.size_of) * keeping.length
            taken = [place + step for place, size in room.things() for step in range(size)]
            self.assertEqual(len(taken), len(set(taken)))
            self.assertTrue(all(0 <= place < ends for place in taken))
            for place, size in room.things():
                self.assertEqual(place // keeping.length, (place + size - 1) // keeping.length)


class Wishes(RefusalCase):

    def test_a_wish_gets_the_least_size_that_is_no_less(self):
        for pages, length, sizes in ROOMS:
            for places in range(1, sizes[-1] + 1):
                room = made_room(pages, length, sizes)
                self.assertEqual(room.wish(places), 0)
                self.assertEqual(room.things(), [(0, min(size for size in sizes if size >= places))])

    def test_a_size_has_shelves_of_its_own(self):
        room = made_room(4, 20, [2, 3, 8])
        self.assertEqual([room.wish(places) for places in (3, 8, 1, 3, 2, 5)], [0, 20, 40, 3, 42, 28])
        self.assertEqual(room.shelves(), [(0, 3, 2), (1, 8, 2), (2, 2, 2)])
        self.assertEqual(room.pile(), [3])
        self.assertEqual(room.wish(4), 60)
        self.assertEqual(room.shelves(), [(0, 3, 2), (1, 8, 2), (2, 2, 2), (3, 8, 1)])
        self.assertEqual(room.pile(), [])

    def test_the_fullest_shelf_with_a_free_slot_which_is_not_of_the_least_page(self):
        room = made_room(3, 8, [2])
        for _ in range(12):
            room.wish(2)
        for place in (0, 2, 8, 16, 18, 20):
            room.give_back(place)
        # The pages 0, 1 and 2 have 2, 3 and 1 things out.
        self.assertEqual([room.wish(2) for _ in range(6)], [8, 0, 2, 16, 18, 20])
        self.assert_refused(NoRoom, room.wish, 2)

    def test_a_full_shelf_is_not_chosen(self):
        room = made_room(2, 6, [2])
        for _ in range(6):
            room.wish(2)
        room.give_back(8)
        room.give_back(10)
        self.assertEqual(room.wish(2), 8)

    def test_of_like_shelves_the_one_of_the_least_page(self):
        room = made_room(3, 6, [2])
        for _ in range(9):
            room.wish(2)
        for place in (16, 8, 2):
            room.give_back(place)
        self.assertEqual([room.wish(1) for _ in range(3)], [2, 8, 16])

    def test_of_like_shelves_the_one_of_the_least_page_which_became_one_last(self):
        room = made_room(3, 4, [1, 2])
        for _ in range(4):
            room.wish(1)
        for _ in range(2):
            room.wish(2)
        for place in range(4):
            room.give_back(place)
        room.trim()
        room.wish(2)
        self.assertEqual(room.shelves(), [(0, 2, 1), (1, 2, 2)])
        room.give_back(4)
        self.assertEqual(room.shelves(), [(0, 2, 1), (1, 2, 1)])
        self.assertEqual([room.wish(2) for _ in range(2)], [2, 4])

    def test_the_least_free_slot_of_the_shelf(self):
        room = made_room(1, 12, [2])
        for _ in range(6):
            room.wish(2)
        for place in (10, 4, 8):
            room.give_back(place)
        self.assertEqual([room.wish(2) for _ in range(3)], [4, 8, 10])

    def test_a_free_slot_is_taken_rather_than_a_page_of_the_pile(self):
        room = made_room(3, 4, [1, 2])
        room.wish(1)
        room.wish(2)
        self.assertEqual(room.wish(2), 6)
        self.assertEqual(room.pile(), [2])

    def test_an_unused_shelf_of_the_size_is_taken_rather_than_a_page_of_the_pile(self):
        room = made_room(3, 4, [1, 2])
        room.wish(1)
        room.wish(2)
        room.give_back(4)
        room.give_back(0)
        room.trim()
        room.wish(1)
        room.wish(2)
        room.give_back(4)
        self.assertEqual((room.shelves(), room.pile()), ([(0, 1, 1), (1, 2, 0)], [2]))
        self.assertEqual(room.wish(2), 4)
        self.assertEqual(room.pile(), [2])

    def test_a_new_shelf_is_on_the_least_page_of_the_pile(self):
        room = made_room(4, 4, [1, 2, 3, 4])
        for places in (1, 2, 3, 4):
            room.wish(places)
        for place in (8, 0):
            room.give_back(place)
        room.trim()
        self.assertEqual(room.pile(), [0, 2])
        self.assertEqual(room.wish(3), 0)
        self.assertEqual(room.wish(1), 8)
        self.assertEqual(room.shelves(), [(0, 3, 1), (1, 2, 1), (2, 1, 1), (3, 4, 1)])

    def test_the_pile_goes_before_unused_shelves_of_other_sizes(self):
        room = made_room(2, 4, [1, 2])
        room.wish(1)
        room.give_back(0)
        self.assertEqual(room.shelves(), [(0, 1, 0)])
        self.assertEqual(room.wish(2), 4)
        self.assertEqual(room.shelves(), [(0, 1, 0), (1, 2, 1)])

    def test_the_pile_is_empty_and_an_unused_shelf_of_another_size_is_given_back(self):
        room = made_room(3, 4, [1, 2, 3])
        for places in (1, 2, 3):
            room.wish(places)
        room.give_back(8)
        room.give_back(4)
        self.assertEqual((room.shelves(), room.pile()), ([(0, 1, 1), (1, 2, 0), (2, 3, 0)], []))
        for _ in range(3):
            room.wish(1)
        self.assertEqual(room.wish(1), 4)
        self.assertEqual((room.shelves(), room.pile()), ([(0, 1, 4), (1, 1, 1), (2, 3, 0)], []))
        self.assertEqual(room.wish(2), 8)
        self.assertEqual((room.shelves(), room.pile()), ([(0, 1, 4), (1, 1, 1), (2, 2, 1)], []))
        self.assert_refused(NoRoom, room.wish, 3)

    def test_no_room(self):
        for pages, length, sizes in ROOMS:
            for size in sizes:
                room = made_room(pages, length, sizes)
                for _ in range(pages * (length // size)):
                    room.wish(size)
                before = state(room)
                for places in range(1, sizes[-1] + 1):
                    self.assert_refused(NoRoom, room.wish, places)
                self.assertEqual(state(room), before)

    def test_no_room_though_shelves_of_other_sizes_have_free_slots(self):
        room = made_room(2, 9, [1, 2, 4])
        room.wish(1)
        room.wish(2)
        self.assert_refused(NoRoom, room.wish, 4)
        room.give_back(9)
        self.assertEqual(room.wish(4), 9)
        self.assertEqual(room.wish(1), 1)


class WrongWishes(RefusalCase):

    def test_bad_wishes(self):
        for room, _ in used_rooms(deeds=20, seeds=1):
            before = state(room)
            for places in (0, -1, -2, -60, -VERY_GREAT) + NO_WHOLE_NUMBERS:
                self.assert_refused(BadWish, room.wish, places)
                self.assert_refused(BadWish, room.room_for, places)
            self.assertEqual(state(room), before)

    def test_beyond_the_greatest_size(self):
        for room, keeping in used_rooms(deeds=20, seeds=1):
            most = keeping.sizes[-1]
            before = state(room)
            for places in (most + 1, most + 2, 2 * most, 61, VERY_GREAT):
                self.assert_refused(TooLarge, room.wish, places)
                self.assert_refused(TooLarge, room.room_for, places)
            self.assertEqual(state(room), before)

    def test_they_are_refused_so_in_a_full_room_too(self):
        room = made_room(1, 10, [1, 4])
        wish_until_refused(room, 1)
        for places in (0, -1) + NO_WHOLE_NUMBERS:
            self.assert_refused(BadWish, room.wish, places)
            self.assert_refused(BadWish, room.room_for, places)
        self.assert_refused(TooLarge, room.wish, 5)
        self.assert_refused(TooLarge, room.room_for, 5)
        self.assert_refused(NoRoom, room.wish, 4)
        self.assertEqual(room.room_for(4), 0)


class RoomFor(RefusalCase):

    def test_at_first(self):
        for pages, length, sizes in ROOMS:
            room = made_room(pages, length, sizes)
            for places in range(1, sizes[-1] + 1):
                size = min(size for size in sizes if size >= places)
                self.assertEqual(room.room_for(places), pages * (length // size))

    def test_some_answers_by_themselves(self):
        room = made_room(3, 10, [2, 3])
        room.wish(2)
        self.assertEqual((room.room_for(1), room.room_for(3)), (14, 6))
        room.wish(3)
        self.assertEqual((room.room_for(2), room.room_for(3)), (9, 5))
        room.give_back(0)
        # The shelf with nothing out can be had for the other size, and for its own.
        self.assertEqual((room.room_for(2), room.room_for(3)), (10, 8))
        room.give_back(10)
        self.assertEqual((room.room_for(2), room.room_for(3)), (15, 9))
        room.trim()
        self.assertEqual((room.room_for(2), room.room_for(3)), (15, 9))

    def test_as_many_wishes_are_met(self):
        for places_at in range(3):
            for room, keeping in used_rooms():
                places = 1 + (keeping.sizes[-1] - 1) * places_at // 2
                many = room.room_for(places)
                self.assertEqual(len(wish_until_refused(room, places)), many)
                self.assertEqual(room.room_for(places), 0)

    def test_it_is_one_less_behind_each_wish(self):
        room = made_room(4, 20, [2, 3, 8])
        for places in (3, 8, 2):
            for many in range(room.room_for(places), room.room_for(places) // 2, -1):
                self.assertEqual(room.room_for(places), many)
                room.wish(places)

    def test_asking_changes_nothing(self):
        for room, keeping in used_rooms():
            before = state(room)
            for places in range(1, keeping.sizes[-1] + 1):
                once = room.room_for(places)
                self.assertEqual(room.room_for(places), once)
                self.assertEqual(once, keeping.room_for(places))
            self.assertEqual(state(room), before)

    def test_asking_changes_nothing_of_what_follows(self):
        room = made_room(3, 4, [1, 2, 3])
        for places in (1, 2, 3):
            room.wish(places)
        room.give_back(8)
        for places in (1, 2, 3):
            room.room_for(places)
        self.assertEqual([room.wish(places) for places in (3, 1, 2)], [8, 1, 6])
