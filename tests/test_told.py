"""What rooms tell, rooms beside one another, and that refusals change nothing: points 1, 11 and 12."""

from slabroom.errors import BadWish, NoRoom, NoSize, NotOut, OutOfThing, TooLarge
from slabroom.plans import Plan
from slabroom.room import Room
from tests.helper import (
    Dice, Keeping, ROOMS, RefusalCase, VERY_GREAT, answer, any_deed, made_room, state, used_room, used_rooms
)


class ManyDeeds(RefusalCase):

    def do(self, room, keeping, dice):
        name, given = any_deed(dice, keeping, 60)
        self.assertEqual(answer(room, name, given), getattr(keeping, name)(*given), (name, given))
        self.assertEqual(state(room), keeping.state(), (name, given))

    def test_one_room(self):
        for pages, length, sizes in ROOMS:
            for seed in range(4):
                with self.subTest(pages=pages, length=length, sizes=sizes, seed=seed):
                    room = made_room(pages, length, sizes)
                    keeping = Keeping(pages, length, sizes)
                    dice = Dice(seed)
                    for _ in range(150):
                        self.do(room, keeping, dice)

    def test_two_rooms_by_one_plan_with_deeds_in_turn(self):
        for pages, length, sizes in ROOMS:
            with self.subTest(pages=pages, length=length, sizes=sizes):
                plan = Plan(pages, length, list(sizes))
                rooms = [Room(plan), Room(plan)]
                keepings = [Keeping(pages, length, sizes), Keeping(pages, length, sizes)]
                dice = Dice(77)
                for _ in range(150):
                    which = dice.below(2)
                    self.do(rooms[which], keepings[which], dice)
                    self.assertEqual(state(rooms[1 - which]), keepings[1 - which].state())
                self.assertEqual((plan.pages, plan.length, plan.sizes), (pages, length, sizes))

    def test_two_rooms_by_one_plan_at_first(self):
        plan = Plan(2, 4, [2])
        one = Room(plan)
        one.wish(2)
        one.write(0, 0, 5)
        other = Room(plan)
        self.assertEqual(state(other), ([], [], [0, 1], {}))
        self.assertEqual(other.wish(2), 0)
        self.assertEqual(other.read(0, 0), 0)
        other.write(0, 0, 6)
        self.assertEqual(one.read(0, 0), 5)
        one.give_back(0)
        self.assertEqual(other.things(), [(0, 2)])


class Lists(RefusalCase):

    def test_the_lists_by_themselves(self):
        room = made_room(5, 20, [2, 3, 8])
        for places in (8, 2, 3, 3):
            room.wish(places)
        self.assertEqual(room.things(), [(0, 8), (20, 2), (40, 3), (43, 3)])
        self.assertEqual(room.shelves(), [(0, 8, 1), (1, 2, 1), (2, 3, 2)])
        self.assertEqual(room.pile(), [3, 4])
        room.give_back(0)
        room.trim()
        room.wish(2)
        self.assertEqual(room.things(), [(20, 2), (22, 2), (40, 3), (43, 3)])
        self.assertEqual(room.shelves(), [(1, 2, 2), (2, 3, 2)])
        self.assertEqual(room.pile(), [0, 3, 4])

    def test_shelves_and_things_rise_also_where_they_were_got_otherwise(self):
        room = made_room(3, 4, [1, 2, 4])
        for places in (1, 2, 4):
            room.wish(places)
        for place in (4, 0):
            room.give_back(place)
        room.trim()
        room.wish(2)
        room.wish(1)
        self.assertEqual(room.shelves(), [(0, 2, 1), (1, 1, 1), (2, 4, 1)])
        self.assertEqual(room.things(), [(0, 2), (4, 1), (8, 4)])
        room.give_back(8)
        room.give_back(0)
        self.assertEqual(room.trim(), 2)
        self.assertEqual(room.pile(), [0, 2])

    def test_the_kinds_of_the_rows(self):
        for room, _ in used_rooms(seeds=1):
            for rows, many in ((room.things(), 2), (room.shelves(), 3)):
                self.assertIs(type(rows), list)
                for row in rows:
                    self.assertIs(type(row), tuple)
                    self.assertEqual([type(number) for number in row], [int] * many)
            self.assertEqual([type(page) for page in room.pile()], [int] * len(room.pile()))

    def test_lists_that_were_told_stay_as_they_were(self):
        for pages, length, sizes in ROOMS:
            room, keeping = used_room(pages, length, sizes, 9, 30)
            told = (room.things(), room.shelves(), room.pile())
            expected = (keeping.things(), keeping.shelves(), keeping.pile())
            dice = Dice(10)
            for _ in range(40):
                name, given = any_deed(dice, keeping, 60)
                answer(room, name, given)
                getattr(keeping, name)(*given)
                self.assertEqual(told, expected)

    def test_a_changed_list_changes_no_room(self):
        for room, keeping in used_rooms(seeds=1):
            for told in (Room.things, Room.shelves, Room.pile):
                for change in (list.clear, list.reverse, lambda rows: rows.append(rows[0] if rows else 0)):
                    change(told(room))
                    self.assertEqual(state(room), keeping.state())
            size = keeping.sizes[0]
            self.assertEqual(answer(room, "wish", (size,)), keeping.wish(size))
            self.assertEqual(room.trim(), keeping.trim())
            self.assertEqual(state(room), keeping.state())

    def test_asking_changes_nothing(self):
        for room, _ in used_rooms(seeds=1):
            before = state(room)
            for _ in range(3):
                self.assertEqual(state(room), before)


class Refusals(RefusalCase):

    def test_what_is_refused_changes_nothing(self):
        for room, keeping in used_rooms(deeds=80):
            before = keeping.state()
            most = keeping.sizes[-1]
            ends = len(keeping.size_of) * keeping.length
            refused = [
                (BadWish, "wish", (0,)),
                (BadWish, "wish", (True,)),
                (TooLarge, "wish", (most + 1,)),
                (BadWish, "room_for", (-1,)),
                (BadWish, "room_for", (None,)),
                (TooLarge, "room_for", (VERY_GREAT,)),
                (NotOut, "give_back", (ends,)),
                (NotOut, "give_back", (-1,)),
                (NotOut, "read", (-1, 0)),
                (NotOut, "write", (ends, 0, 5)),
                (NoSize, "gather", (0,)),
                (NoSize, "gather", (most + 1,)),
                (NoSize, "gather", (True,)),
            ]
            for place, size in room.things():
                refused.append((OutOfThing, "read", (place, size)))
                refused.append((OutOfThing, "write", (place, -1, 5)))
                refused.append((OutOfThing, "write", (place, size, 5)))
            for kind, name, given in refused:
                self.assert_refused(kind, getattr(room, name), *given)
                self.assertEqual(state(room), before)

    def test_a_wish_without_room_changes_nothing(self):
        for pages, length, sizes in ROOMS:
            for first in (sizes[0], sizes[-1]):
                room = made_room(pages, length, sizes)
                keeping = Keeping(pages, length, sizes)
                while keeping.wish(first) is not NoRoom:
                    room.wish(first)
                for places in range(1, sizes[-1] + 1):
                    self.assert_refused(NoRoom, room.wish, places)
                    self.assertEqual(state(room), keeping.state())
                room.give_back(0)
                keeping.give_back(0)
                self.assertEqual(room.wish(first), keeping.wish(first))
                self.assertEqual(state(room), keeping.state())
