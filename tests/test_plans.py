"""Plans: points 2, 3 and 4 of the document, and points 1 and 12 as far as they touch them."""

import inspect
import unittest

from slabroom import plans
from slabroom.errors import BadPlan, BadWish, NoSize, TooLarge
from slabroom.plans import Plan
from tests.helper import NO_WHOLE_NUMBERS, RefusalCase, VERY_GREAT, told

# Pages, length and sizes of good plans, the edges among them.
GOOD = (
    (1, 1, [1]),
    (40, 60, [60]),
    (1, 60, [1]),
    (40, 1, [1]),
    (3, 10, [10]),
    (3, 10, [1, 10]),
    (4, 20, [2, 3, 8]),
    (5, 30, [4, 7, 15, 16]),
    (2, 8, [1, 2, 3, 4, 5, 6, 7, 8]),
    (40, 60, [1, 2, 5, 9, 20, 31, 59, 60]),
)


def good_plans():
    return [Plan(pages, length, list(sizes)) for pages, length, sizes in GOOD]


class Interface(RefusalCase):

    def test_the_mosts(self):
        self.assertEqual((plans.MOST_PAGES, plans.MOST_LENGTH, plans.MOST_SIZES), (40, 60, 8))

    def test_the_class_is_defined_in_the_file_plans(self):
        self.assertEqual(Plan.__module__, "slabroom.plans")

    def test_the_methods_are_defined_in_the_class_itself(self):
        self.assertIn("size_for", vars(Plan))
        self.assertIn("per", vars(Plan))

    def test_the_names_of_the_arguments(self):
        self.assertEqual(list(inspect.signature(Plan).parameters), ["pages", "length", "sizes"])
        self.assertEqual(list(inspect.signature(Plan.size_for).parameters)[1:], ["wish"])
        self.assertEqual(list(inspect.signature(Plan.per).parameters)[1:], ["size"])

    def test_the_arguments_by_keyword(self):
        plan = Plan(sizes=[2, 4], length=9, pages=3)
        self.assertEqual((plan.pages, plan.length, plan.sizes), (3, 9, [2, 4]))
        self.assertEqual(plan.size_for(wish=3), 4)
        self.assertEqual(plan.per(size=4), 2)


class GoodPlans(RefusalCase):

    def test_the_fields(self):
        for pages, length, sizes in GOOD:
            with self.subTest(pages=pages, length=length, sizes=sizes):
                plan = Plan(pages, length, list(sizes))
                self.assertEqual(plan.pages, pages)
                self.assertEqual(plan.length, length)
                self.assertIs(type(plan.sizes), list)
                self.assertEqual(plan.sizes, sizes)

    def test_every_number_of_pages_and_every_length(self):
        for pages in range(1, 41):
            self.assertEqual(Plan(pages, 5, [2]).pages, pages)
        for length in range(1, 61):
            self.assertEqual(Plan(5, length, [1]).length, length)

    def test_every_size_by_itself(self):
        for size in range(1, 61):
            self.assertEqual(Plan(1, 60, [size]).sizes, [size])

    def test_every_count_of_sizes(self):
        for many in range(1, 9):
            sizes = list(range(3, 3 + many))
            self.assertEqual(Plan(1, 60, list(sizes)).sizes, sizes)

    def test_the_list_handed_in_stays_as_it_was(self):
        for pages, length, sizes in GOOD:
            handed = list(sizes)
            plan = Plan(pages, length, handed)
            self.assertEqual(handed, sizes)
            self.assertIsNot(plan.sizes, handed)

    def test_a_changed_list_changes_no_plan(self):
        handed = [2, 3, 8]
        plan = Plan(4, 20, handed)
        handed[0] = 1
        handed.append(20)
        self.assertEqual(plan.sizes, [2, 3, 8])
        self.assertEqual(plan.size_for(1), 2)
        self.assert_refused(TooLarge, plan.size_for, 9)
        self.assert_refused(NoSize, plan.per, 20)
        handed.clear()
        self.assertEqual(plan.sizes, [2, 3, 8])

    def test_a_changed_plan_changes_no_list(self):
        handed = [2, 3, 8]
        plan = Plan(4, 20, handed)
        plan.sizes[0] = 1
        plan.sizes.append(20)
        self.assertEqual(handed, [2, 3, 8])

    def test_two_plans_of_one_list_have_nothing_in_common(self):
        handed = [2, 3, 8]
        one = Plan(4, 20, handed)
        other = Plan(4, 20, handed)
        one.sizes.clear()
        self.assertEqual(other.sizes, [2, 3, 8])


class BadPlans(RefusalCase):

    def test_pages(self):
        for pages in (0, -1, -40, 41, 42, VERY_GREAT, -VERY_GREAT) + NO_WHOLE_NUMBERS:
            with self.subTest(pages=told(pages)):
                self.assert_refused(BadPlan, Plan, pages, 20, [2, 3, 8])

    def test_length(self):
        for length in (0, -1, -60, 61, 62, VERY_GREAT, -VERY_GREAT) + NO_WHOLE_NUMBERS:
            with self.subTest(length=told(length)):
                self.assert_refused(BadPlan, Plan, 4, length, [1])

    def test_sizes_that_are_no_list(self):
        for sizes in ("", "123", None, (), (1,), (2, 3, 8), {1: 2}, {1}, range(1, 4), 1, 0, True, False, 2.5):
            with self.subTest(sizes=sizes):
                self.assert_refused(BadPlan, Plan, 4, 20, sizes)

    def test_no_sizes_and_too_many(self):
        for many in (0, 9, 10, 60):
            with self.subTest(many=many):
                self.assert_refused(BadPlan, Plan, 4, 60, list(range(1, 1 + many)))

    def test_a_bad_size_at_each_place(self):
        good = [2, 4, 6, 8, 10, 12, 14, 16]
        for place in range(8):
            wrong = [0, -1, -16, 21, 22, 60, VERY_GREAT, -VERY_GREAT] + list(NO_WHOLE_NUMBERS)
            if place > 0:
                wrong += [good[place - 1], good[place - 1] - 1, 1]
            for size in wrong:
                with self.subTest(place=place, size=told(size)):
                    self.assert_refused(BadPlan, Plan, 4, 20, good[:place] + [size])
                    self.assert_refused(BadPlan, Plan, 4, 20, good[:place] + [size] + good[place + 1:])

    def test_the_length_is_the_limit_of_a_size_also_in_the_middle(self):
        self.assert_refused(BadPlan, Plan, 4, 10, [9, 11])
        self.assert_refused(BadPlan, Plan, 4, 10, [9, 11, 12])
        self.assert_refused(BadPlan, Plan, 4, 1, [2])

    def test_falling_sizes(self):
        self.assert_refused(BadPlan, Plan, 4, 20, [8, 3, 2])
        self.assert_refused(BadPlan, Plan, 4, 20, [2, 8, 3])
        self.assert_refused(BadPlan, Plan, 4, 20, [1, 1])

    def test_the_list_handed_in_stays_as_it_was(self):
        for pages, length, sizes in (
            (0, 20, [2, 3, 8]),
            (4, 61, [2, 3, 8]),
            (4, 20, []),
            (4, 20, [8, 3, 2]),
            (4, 20, [2, 2, 3]),
            (4, 20, [True, 3, 8]),
            (4, 20, [2, None, "8"]),
            (4, 20, [2, 3, 21]),
            (4, 20, [1, 2, 3, 4, 5, 6, 7, 8, 9]),
        ):
            with self.subTest(pages=pages, length=length, sizes=sizes):
                handed = list(sizes)
                self.assert_refused(BadPlan, Plan, pages, length, handed)
                self.assertEqual(repr(handed), repr(sizes))


class SizeFor(RefusalCase):

    def test_the_least_size_that_is_no_less(self):
        for plan in good_plans():
            for wish in range(1, plan.sizes[-1] + 1):
                with self.subTest(sizes=plan.sizes, wish=wish):
                    self.assertEqual(plan.size_for(wish), min(size for size in plan.sizes if size >= wish))

    def test_some_answers_by_themselves(self):
        plan = Plan(4, 20, [2, 3, 8])
        self.assertEqual([plan.size_for(wish) for wish in range(1, 9)], [2, 2, 3, 8, 8, 8, 8, 8])

    def test_beyond_the_greatest_size(self):
        for plan in good_plans():
            most = plan.sizes[-1]
            for wish in (most + 1, most + 2, 2 * most, 61, 1000, VERY_GREAT):
                self.assert_refused(TooLarge, plan.size_for, wish)

    def test_the_length_is_not_the_limit_of_a_wish(self):
        plan = Plan(4, 20, [2, 3, 8])
        for wish in range(9, 21):
            self.assert_refused(TooLarge, plan.size_for, wish)

    def test_bad_wishes(self):
        for plan in good_plans():
            for wish in (0, -1, -2, -60, -VERY_GREAT) + NO_WHOLE_NUMBERS:
                self.assert_refused(BadWish, plan.size_for, wish)


class Per(RefusalCase):

    def test_the_slots_that_go_in_whole(self):
        for plan in good_plans():
            for size in plan.sizes:
                with self.subTest(length=plan.length, size=size):
                    many = plan.per(size)
                    self.assertIs(type(many), int)
                    self.assertLessEqual(many * size, plan.length)
                    self.assertGreater((many + 1) * size, plan.length)

    def test_some_answers_by_themselves(self):
        plan = Plan(5, 30, [4, 7, 15, 16])
        self.assertEqual([plan.per(size) for size in plan.sizes], [7, 4, 2, 1])
        plan = Plan(2, 8, [1, 2, 3, 4, 5, 6, 7, 8])
        self.assertEqual([plan.per(size) for size in plan.sizes], [8, 4, 2, 2, 1, 1, 1, 1])
        self.assertEqual(Plan(1, 1, [1]).per(1), 1)
        self.assertEqual(Plan(40, 60, [60]).per(60), 1)
        self.assertEqual(Plan(40, 60, [1]).per(1), 60)

    def test_numbers_that_are_no_size(self):
        for plan in good_plans():
            for size in range(-3, 70):
                if size not in plan.sizes:
                    with self.subTest(sizes=plan.sizes, size=size):
                        self.assert_refused(NoSize, plan.per, size)
            self.assert_refused(NoSize, plan.per, VERY_GREAT)
            self.assert_refused(NoSize, plan.per, -VERY_GREAT)

    def test_what_is_no_whole_number(self):
        for plan in good_plans():
            for size in NO_WHOLE_NUMBERS:
                with self.subTest(sizes=plan.sizes, size=size):
                    self.assert_refused(NoSize, plan.per, size)

    def test_true_is_not_the_size_one(self):
        plan = Plan(3, 10, [1, 10])
        self.assertEqual(plan.per(1), 10)
        self.assert_refused(NoSize, plan.per, True)


class Refusals(RefusalCase):

    def test_what_is_refused_changes_no_plan(self):
        for pages, length, sizes in GOOD:
            plan = Plan(pages, length, list(sizes))
            own = plan.sizes
            for wish in (0, -1, True, "1", None, sizes[-1] + 1, VERY_GREAT):
                with self.assertRaises((BadWish, TooLarge)):
                    plan.size_for(wish)
            for size in (0, -1, True, "1", None, 61):
                with self.assertRaises(NoSize):
                    plan.per(size)
            self.assertEqual((plan.pages, plan.length, plan.sizes), (pages, length, sizes))
            self.assertIs(plan.sizes, own)

    def test_what_is_answered_changes_no_plan(self):
        for pages, length, sizes in GOOD:
            plan = Plan(pages, length, list(sizes))
            for wish in range(1, sizes[-1] + 1):
                plan.size_for(wish)
            for size in sizes:
                plan.per(size)
            self.assertEqual((plan.pages, plan.length, plan.sizes), (pages, length, sizes))


if __name__ == "__main__":
    unittest.main()
