"""Shelves by themselves: the interface, and points 4, 11 and 12 as far as they touch them."""

import inspect

from slabroom.errors import NoRoom, NotOut
from slabroom.shelf import Shelf
from tests.helper import Dice, RefusalCase, VERY_GREAT

SLOTS = (1, 2, 3, 7, 60, 500)


def full_shelf(slots):
    shelf = Shelf(0, 1, slots)
    for _ in range(slots):
        shelf.take()
    return shelf


class Interface(RefusalCase):

    def test_the_class_is_defined_in_the_file_shelf(self):
        self.assertEqual(Shelf.__module__, "slabroom.shelf")

    def test_the_methods_are_defined_in_the_class_itself(self):
        for name in ("out", "free", "take", "give"):
            with self.subTest(name):
                self.assertIn(name, vars(Shelf))

    def test_the_names_of_the_arguments(self):
        self.assertEqual(list(inspect.signature(Shelf).parameters), ["page", "size", "slots"])
        for name, given in (("out", []), ("free", []), ("take", []), ("give", ["slot"])):
            with self.subTest(name):
                self.assertEqual(list(inspect.signature(getattr(Shelf, name)).parameters)[1:], given)

    def test_the_arguments_by_keyword(self):
        shelf = Shelf(slots=2, size=5, page=3)
        self.assertEqual((shelf.page, shelf.size, shelf.free()), (3, 5, [0, 1]))
        shelf.take()
        shelf.give(slot=0)
        self.assertEqual(shelf.free(), [0, 1])

    def test_the_fields(self):
        for page in (0, 1, 39):
            for size in (1, 7, 60):
                shelf = Shelf(page, size, 4)
                self.assertEqual((shelf.page, shelf.size), (page, size))
                shelf.take()
                shelf.give(0)
                self.assertEqual((shelf.page, shelf.size), (page, size))

    def test_the_kinds_of_the_answers(self):
        shelf = Shelf(0, 1, 3)
        self.assertIs(type(shelf.take()), int)
        self.assertIs(type(shelf.out()), int)
        self.assertIs(type(shelf.free()), list)
        self.assertIsNone(shelf.give(0))


class Slots(RefusalCase):

    def test_all_slots_are_free_at_first(self):
        for slots in SLOTS:
            shelf = Shelf(2, 3, slots)
            self.assertEqual(shelf.out(), 0)
            self.assertEqual(shelf.free(), list(range(slots)))

    def test_slots_are_taken_rising_until_none_is_free(self):
        for slots in SLOTS:
            shelf = Shelf(2, 3, slots)
            for slot in range(slots):
                self.assertEqual(shelf.take(), slot)
                self.assertEqual(shelf.out(), slot + 1)
                self.assertEqual(shelf.free(), list(range(slot + 1, slots)))
            for _ in range(2):
                self.assert_refused(NoRoom, shelf.take)
                self.assertEqual(shelf.out(), slots)
                self.assertEqual(shelf.free(), [])

    def test_slots_given_back_in_any_order(self):
        for order in ([0, 1, 2, 3, 4], [4, 3, 2, 1, 0], [2, 4, 0, 3, 1], [3, 0, 4, 1, 2]):
            with self.subTest(order=order):
                shelf = full_shelf(5)
                for many in range(5):
                    self.assertIsNone(shelf.give(order[many]))
                    self.assertEqual(shelf.out(), 4 - many)
                    self.assertEqual(shelf.free(), sorted(order[:many + 1]))
                self.assertEqual([shelf.take() for _ in range(5)], [0, 1, 2, 3, 4])
                self.assert_refused(NoRoom, shelf.take)

    def test_the_least_free_slot_is_taken_again(self):
        shelf = full_shelf(6)
        for slot in (4, 1, 3):
            shelf.give(slot)
        self.assertEqual(shelf.take(), 1)
        shelf.give(0)
        self.assertEqual([shelf.take() for _ in range(3)], [0, 3, 4])
        self.assert_refused(NoRoom, shelf.take)

    def test_a_slot_below_those_never_taken(self):
        shelf = Shelf(0, 1, 6)
        for _ in range(3):
            shelf.take()
        shelf.give(1)
        self.assertEqual(shelf.free(), [1, 3, 4, 5])
        self.assertEqual([shelf.take() for _ in range(2)], [1, 3])

    def test_many_deeds(self):
        for seed in range(6):
            dice = Dice(seed)
            slots = 1 + dice.below(12)
            shelf = Shelf(1, 2, slots)
            out = []
            for _ in range(200):
                free = [slot for slot in range(slots) if slot not in out]
                slot = dice.below(slots)
                if dice.below(2) and free:
                    self.assertEqual(shelf.take(), free[0])
                    out.append(free[0])
                elif slot in out:
                    self.assertIsNone(shelf.give(slot))
                    out.remove(slot)
                else:
                    self.assert_refused(NotOut, shelf.give, slot)
                self.assertEqual(shelf.out(), len(out))
                self.assertEqual(shelf.free(), [slot for slot in range(slots) if slot not in out])


class Refusals(RefusalCase):

    def test_give_a_slot_that_is_not_out(self):
        shelf = Shelf(0, 1, 5)
        for slot in range(5):
            self.assert_refused(NotOut, shelf.give, slot)
        for _ in range(3):
            shelf.take()
        for slot in (3, 4):
            self.assert_refused(NotOut, shelf.give, slot)
        shelf.give(1)
        self.assert_refused(NotOut, shelf.give, 1)
        self.assertEqual((shelf.out(), shelf.free()), (2, [1, 3, 4]))

    def test_give_a_slot_that_is_none(self):
        for shelf in (Shelf(0, 1, 5), full_shelf(5)):
            before = (shelf.out(), shelf.free())
            for slot in (-1, -2, -5, -6, 5, 6, 60, VERY_GREAT, -VERY_GREAT):
                self.assert_refused(NotOut, shelf.give, slot)
                self.assertEqual((shelf.out(), shelf.free()), before)

    def test_what_is_refused_changes_nothing(self):
        shelf = full_shelf(3)
        self.assert_refused(NoRoom, shelf.take)
        self.assert_refused(NotOut, shelf.give, 3)
        shelf.give(2)
        self.assert_refused(NotOut, shelf.give, 2)
        self.assertEqual((shelf.out(), shelf.free()), (2, [2]))
        self.assertEqual(shelf.take(), 2)


class ListsAndNeighbours(RefusalCase):

    def test_a_list_that_was_told_stays_as_it_was(self):
        shelf = Shelf(0, 1, 4)
        at_first = shelf.free()
        shelf.take()
        shelf.take()
        later = shelf.free()
        shelf.give(0)
        self.assertEqual(at_first, [0, 1, 2, 3])
        self.assertEqual(later, [2, 3])

    def test_a_changed_list_changes_no_shelf(self):
        shelf = Shelf(0, 1, 4)
        shelf.take()
        for change in (lambda free: free.clear(), lambda free: free.append(0), lambda free: free.reverse()):
            change(shelf.free())
            self.assertEqual((shelf.out(), shelf.free()), (1, [1, 2, 3]))
        self.assertEqual([shelf.take() for _ in range(3)], [1, 2, 3])
        self.assert_refused(NoRoom, shelf.take)

    def test_asking_changes_nothing(self):
        shelf = full_shelf(4)
        for slot in (3, 0, 2):
            shelf.give(slot)
        for _ in range(3):
            self.assertEqual((shelf.out(), shelf.free()), (1, [0, 2, 3]))

    def test_two_shelves_beside_one_another(self):
        one = Shelf(0, 2, 3)
        other = Shelf(0, 2, 3)
        self.assertEqual([one.take(), one.take(), one.take()], [0, 1, 2])
        self.assertEqual((other.out(), other.free()), (0, [0, 1, 2]))
        self.assert_refused(NotOut, other.give, 0)
        self.assertEqual(other.take(), 0)
        one.give(0)
        self.assertEqual((one.out(), one.free()), (2, [0]))
        self.assertEqual((other.out(), other.free()), (1, [1, 2]))
