"""What is written in things: point 9 of the document."""

from slabroom.errors import NotOut, OutOfThing
from tests.helper import Dice, RefusalCase, VERY_GREAT, made_room, state, used_rooms, written

# No great number is handed to assertEqual, which could not write it out.
GREAT = (10 ** 40, -10 ** 40, 2 ** 64, -2 ** 63)


class Written(RefusalCase):

    def test_0_at_each_place_at_first(self):
        room = made_room(4, 20, [2, 3, 8])
        for places, size in ((1, 2), (2, 2), (3, 3), (4, 8), (8, 8)):
            place = room.wish(places)
            self.assertEqual([room.read(place, step) for step in range(size)], [0] * size)

    def test_what_was_last_written(self):
        room = made_room(2, 9, [4])
        room.wish(4)
        self.assertIsNone(room.write(0, 1, 5))
        self.assertEqual(written(room), {0: [0, 5, 0, 0]})
        self.assertIsNone(room.write(0, 1, 6))
        room.write(0, 3, -7)
        self.assertEqual(written(room), {0: [0, 6, 0, -7]})
        room.write(0, 1, 0)
        self.assertEqual(written(room), {0: [0, 0, 0, -7]})

    def test_each_place_of_each_thing_holds_a_number_of_its_own(self):
        for room, keeping in used_rooms():
            number = 0
            expected = {}
            for place, size in room.things():
                expected[place] = []
                for step in range(size):
                    number += 1
                    room.write(place, step, number)
                    expected[place].append(number)
            self.assertEqual(written(room), expected)

    def test_also_where_fewer_places_were_wished_for(self):
        room = made_room(1, 16, [8])
        place = room.wish(1)
        for step in range(8):
            self.assertEqual(room.read(place, step), 0)
            room.write(place, step, 10 + step)
        self.assertEqual(written(room), {0: [10, 11, 12, 13, 14, 15, 16, 17]})

    def test_reading_changes_nothing(self):
        for room, _ in used_rooms(seeds=1):
            before = state(room)
            self.assertEqual(written(room), written(room))
            self.assertEqual(state(room), before)

    def test_writing_changes_no_thing_no_shelf_and_no_pile(self):
        for room, _ in used_rooms(seeds=1):
            before = state(room)[:3]
            for place, size in room.things():
                room.write(place, size - 1, 9)
            self.assertEqual(state(room)[:3], before)

    def test_great_numbers_and_those_below_0(self):
        room = made_room(1, 6, [2])
        room.wish(2)
        for number in (1, -1, 0) + GREAT:
            self.assertIsNone(room.write(0, 1, number))
            self.assertEqual(room.read(0, 1), number)
            self.assertEqual(room.read(0, 0), 0)
        for number in (VERY_GREAT, -VERY_GREAT):
            room.write(0, 1, number)
            self.assertTrue(room.read(0, 1) == number)


class GotAgain(RefusalCase):

    def test_0_again_behind_giving_back(self):
        room = made_room(1, 6, [3])
        room.wish(3)
        room.wish(3)
        for step in range(3):
            room.write(0, step, 5)
            room.write(3, step, 6)
        room.give_back(0)
        self.assertEqual(room.wish(1), 0)
        self.assertEqual(written(room), {0: [0, 0, 0], 3: [6, 6, 6]})

    def test_0_again_on_a_shelf_of_another_size(self):
        room = made_room(1, 12, [2, 3])
        for place in (0, 2, 4):
            room.wish(2)
            room.write(place, 0, 7)
            room.write(place, 1, 8)
        for place in (0, 2, 4):
            room.give_back(place)
        for place in (0, 3, 6, 9):
            self.assertEqual(room.wish(3), place)
        self.assertEqual(written(room), {place: [0, 0, 0] for place in (0, 3, 6, 9)})

    def test_0_again_behind_trimming(self):
        room = made_room(2, 4, [2, 4])
        room.wish(4)
        room.write(0, 2, 9)
        room.give_back(0)
        room.trim()
        self.assertEqual([room.wish(2) for _ in range(2)], [0, 2])
        self.assertEqual(written(room), {0: [0, 0], 2: [0, 0]})

    def test_0_again_at_a_place_from_which_a_thing_was_moved(self):
        room = made_room(2, 4, [2])
        for place in (0, 2, 4):
            self.assertEqual(room.wish(2), place)
        room.write(4, 0, 5)
        room.write(4, 1, 6)
        room.give_back(0)
        self.assertEqual(room.gather(2), [(4, 0)])
        self.assertEqual(written(room), {0: [5, 6], 2: [0, 0]})
        self.assertEqual(room.wish(2), 4)
        self.assertEqual(written(room), {0: [5, 6], 2: [0, 0], 4: [0, 0]})

    def test_what_is_moved_is_written_and_given_back_where_it_is_now(self):
        room = made_room(2, 4, [2])
        for _ in range(3):
            room.wish(2)
        room.write(2, 0, 1)
        room.write(4, 0, 3)
        room.give_back(0)
        room.gather(2)
        self.assert_refused(NotOut, room.read, 4, 0)
        self.assert_refused(NotOut, room.write, 4, 0, 1)
        self.assert_refused(NotOut, room.give_back, 4)
        room.write(0, 1, 4)
        self.assertEqual(written(room), {0: [3, 4], 2: [1, 0]})
        room.give_back(0)
        self.assertEqual(written(room), {2: [1, 0]})


class Refused(RefusalCase):

    def test_no_step_of_the_thing(self):
        for room, keeping in used_rooms():
            before = state(room)
            for place, size in room.things():
                for step in (-1, -2, -size, -size - 1, size, size + 1, keeping.length, 60, VERY_GREAT, -VERY_GREAT):
                    if step not in range(size):
                        self.assert_refused(OutOfThing, room.read, place, step)
                        self.assert_refused(OutOfThing, room.write, place, step, 1)
            self.assertEqual(state(room), before)

    def test_a_step_that_leads_into_the_next_thing(self):
        room = made_room(1, 9, [3])
        for _ in range(3):
            room.wish(3)
        for place, step in ((0, 3), (0, 4), (3, -1), (3, 3), (6, -6)):
            self.assert_refused(OutOfThing, room.read, place, step)
            self.assert_refused(OutOfThing, room.write, place, step, 8)
        self.assertEqual(written(room), {0: [0, 0, 0], 3: [0, 0, 0], 6: [0, 0, 0]})

    def test_no_thing_begins_there(self):
        for room, keeping in used_rooms():
            before = state(room)
            ends = len(keeping.size_of) * keeping.length
            first = [place for place, _ in room.things()]
            others = [place for place in range(ends) if place not in first]
            far = [-1, -2, -ends, -ends - 1, ends, ends + 1, 2 * ends, VERY_GREAT, -VERY_GREAT]
            for place in others[:60] + others[-20:] + far:
                for step in (0, 1, -1, 60, VERY_GREAT):
                    self.assert_refused(NotOut, room.read, place, step)
                    self.assert_refused(NotOut, room.write, place, step, 1)
            self.assertEqual(state(room), before)

    def test_behind_giving_back(self):
        room = made_room(2, 6, [3])
        room.wish(3)
        room.wish(3)
        room.give_back(3)
        for step in (0, 2, 3, -1):
            self.assert_refused(NotOut, room.read, 3, step)
            self.assert_refused(NotOut, room.write, 3, step, 1)
        room.give_back(0)
        self.assert_refused(NotOut, room.read, 0, 0)
        room.trim()
        self.assert_refused(NotOut, room.read, 0, 0)


class ManyDeeds(RefusalCase):

    def test_writing_giving_back_and_getting_again(self):
        for seed in range(4):
            dice = Dice(seed)
            room = made_room(2, 9, [2, 4])
            held = {}
            for _ in range(150):
                if room.room_for(4) and dice.below(3) == 0:
                    held[room.wish(4)] = [0, 0, 0, 0]
                elif held and dice.below(4) == 0:
                    place = dice.one_of(sorted(held))
                    room.give_back(place)
                    del held[place]
                elif held:
                    place = dice.one_of(sorted(held))
                    step = dice.below(4)
                    number = dice.below(100) - 50
                    room.write(place, step, number)
                    held[place][step] = number
                self.assertEqual(written(room), held)
