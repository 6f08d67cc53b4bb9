"""Tests of [5], and of what [1] and [2] say of it."""

import copy
import unittest

from larderlist import lacks
from larderlist.lacks import kept, lacking

NOTHING = (0, 0, 0, 0, 0, 0, 0)

DISHES = (
    (5, (("milk", 7), ("egg", 4))),
    (2, (("egg", 3), ("egg", 2))),
    (7, (("flour", 200),)),
)

LARDER = (
    ("egg", 2, 3),
    ("milk", 50, 4),
    ("egg", 1, 9),
    ("egg", 2, 3),
    ("flour", 150, 99),
    ("salt", 10, 1),
)


def many_batches():
    """200 batches: number k is of one of four names, with amounts up to 200."""
    return tuple((("egg", "eggs", "ham", "salt")[k % 4], k + 1, k % 99 + 1) for k in range(200))


class Lacks(unittest.TestCase):
    def assert_whole(self, numbers):
        self.assertIs(type(numbers), tuple)
        self.assertEqual(len(numbers), 7)
        for number in numbers:
            self.assertIs(type(number), int)


class Kept(Lacks):
    def test_batches_of_the_name_up_to_their_last_day(self):
        self.assertEqual(kept(LARDER, "egg"), (5, 5, 5, 1, 1, 1, 1))
        self.assertEqual(kept(LARDER, "milk"), (50, 50, 50, 50, 0, 0, 0))
        self.assertEqual(kept(LARDER, "salt"), (10, 0, 0, 0, 0, 0, 0))

    def test_no_batches(self):
        self.assertEqual(kept((), "egg"), NOTHING)

    def test_batches_of_another_name(self):
        self.assertEqual(kept(LARDER, "ham"), NOTHING)
        alike = (("eg", 1, 9), ("eggs", 2, 9), ("ega", 4, 9), ("agg", 8, 9))
        self.assertEqual(kept(alike, "egg"), NOTHING)

    def test_a_last_day_counts_on_itself_and_ahead_of_it(self):
        for last in range(1, 8):
            with self.subTest(last=last):
                expected = tuple(6 if day <= last else 0 for day in range(1, 8))
                self.assertEqual(kept((("egg", 6, last),), "egg"), expected)

    def test_from_day_8_on_it_keeps_the_whole_week(self):
        for last in range(8, 100):
            with self.subTest(last=last):
                self.assertEqual(kept((("egg", 6, last),), "egg"), (6,) * 7)

    def test_amounts_from_1_to_200(self):
        for amount in range(1, 201):
            with self.subTest(amount=amount):
                self.assertEqual(kept((("egg", amount, 1),), "egg"), (amount, 0, 0, 0, 0, 0, 0))

    def test_alike_batches_count_each(self):
        self.assertEqual(kept((("egg", 6, 2),) * 3, "egg"), (18, 18, 0, 0, 0, 0, 0))

    def test_200_batches(self):
        larder = many_batches()
        for name in ("egg", "eggs", "ham", "salt"):
            expected = [0] * 7
            for word, amount, last in larder:
                for day in range(1, 8):
                    if word == name and day <= last:
                        expected[day - 1] += amount
            with self.subTest(name=name):
                self.assertEqual(kept(larder, name), tuple(expected))

    def test_200_batches_of_one_name(self):
        larder = tuple(("egg", 200, k % 8 + 1) for k in range(200))
        self.assertEqual(kept(larder, "egg"), (40000, 35000, 30000, 25000, 20000, 15000, 10000))

    def test_the_answer_is_a_tuple_of_whole_numbers(self):
        for larder in ((), LARDER, many_batches()):
            for name in ("egg", "salt", "rye"):
                self.assert_whole(kept(larder, name))


class Lacking(Lacks):
    def test_what_is_needed_from_a_day_on_less_what_is_kept_to_it(self):
        # Needed from each day on: 9 9 4 4 4 0 0; kept: 5 5 5 1 1 1 1.
        self.assertEqual(lacking(DISHES, LARDER, "egg"), (4, 4, 0, 3, 3, 0, 0))

    def test_what_spoils_ahead_of_its_need_does_not_help_then(self):
        self.assertEqual(lacking(DISHES, LARDER, "milk"), (0, 0, 0, 0, 7, 0, 0))

    def test_what_keeps_beyond_the_week(self):
        self.assertEqual(lacking(DISHES, LARDER, "flour"), (50,) * 7)

    def test_no_batches(self):
        self.assertEqual(lacking(DISHES, (), "egg"), (9, 9, 4, 4, 4, 0, 0))

    def test_no_dishes(self):
        self.assertEqual(lacking((), LARDER, "egg"), NOTHING)

    def test_neither_dishes_nor_batches(self):
        self.assertEqual(lacking((), (), "egg"), NOTHING)

    def test_batches_of_another_name(self):
        larder = (("eggs", 200, 9), ("eg", 200, 9), ("milk", 200, 9))
        self.assertEqual(lacking(DISHES, larder, "egg"), (9, 9, 4, 4, 4, 0, 0))

    def test_a_name_that_no_dish_needs(self):
        self.assertEqual(lacking(DISHES, LARDER, "salt"), NOTHING)

    def test_last_days_ahead_of_on_and_behind_the_day(self):
        dishes = ((4, (("egg", 10),)),)
        expected = {
            1: (7, 10, 10, 10, 0, 0, 0),
            2: (7, 7, 10, 10, 0, 0, 0),
            3: (7, 7, 7, 10, 0, 0, 0),
            4: (7, 7, 7, 7, 0, 0, 0),
            5: (7, 7, 7, 7, 0, 0, 0),
            7: (7, 7, 7, 7, 0, 0, 0),
            8: (7, 7, 7, 7, 0, 0, 0),
            99: (7, 7, 7, 7, 0, 0, 0),
        }
        for last, told in expected.items():
            with self.subTest(last=last):
                self.assertEqual(lacking(dishes, (("egg", 3, last),), "egg"), told)

    def test_more_kept_than_needed_is_0_and_not_less(self):
        self.assertEqual(lacking(DISHES, (("egg", 200, 99),), "egg"), NOTHING)
        self.assertEqual(lacking(DISHES, (("egg", 200, 3),), "egg"), (0, 0, 0, 4, 4, 0, 0))

    def test_just_as_much_kept_as_needed(self):
        self.assertEqual(lacking(DISHES, (("egg", 9, 5),), "egg"), NOTHING)
        self.assertEqual(lacking(DISHES, (("egg", 8, 5),), "egg"), (1, 1, 0, 0, 0, 0, 0))

    def test_what_one_day_has_beyond_its_need_is_not_carried_on(self):
        # 20 are kept to day 2 and 4 are needed then; day 6 still lacks all of its own.
        dishes = ((2, (("ham", 4),)), (6, (("ham", 5),)))
        self.assertEqual(lacking(dishes, (("ham", 20, 2),), "ham"), (0, 0, 5, 5, 5, 5, 0))

    def test_200_batches(self):
        larder = tuple(("egg", 1, k % 8 + 1) for k in range(200))
        dishes = ((7, (("egg", 200),)),)
        self.assertEqual(lacking(dishes, larder, "egg"), (0, 25, 50, 75, 100, 125, 150))

    def test_the_answer_is_a_tuple_of_whole_numbers(self):
        for dishes in ((), DISHES):
            for larder in ((), LARDER, many_batches()):
                for name in ("egg", "milk", "rye"):
                    self.assert_whole(lacking(dishes, larder, name))


class AsItWas(unittest.TestCase):
    def test_each_function_is_defined_in_its_file(self):
        for told in (kept, lacking):
            self.assertEqual(told.__module__, lacks.__name__)

    def test_what_is_handed_in_stands_as_it_was(self):
        dishes, larder = copy.deepcopy(DISHES), many_batches()
        before = copy.deepcopy((dishes, larder))
        kept(larder, "egg")
        lacking(dishes, larder, "egg")
        self.assertEqual((dishes, larder), before)

    def test_asked_again_it_answers_the_same(self):
        self.assertEqual(kept(LARDER, "egg"), kept(LARDER, "egg"))
        self.assertEqual(lacking(DISHES, LARDER, "egg"), lacking(DISHES, LARDER, "egg"))
        self.assertEqual(kept((), "egg"), NOTHING)

    def test_somewhat_beyond_the_limits_nothing_is_refused(self):
        larder = (("aubergines", 201, 100),) * 201
        self.assertEqual(kept(larder, "aubergines"), (201 * 201,) * 7)
        dishes = ((1, (("aubergines", 201 * 201 + 5),)),)
        self.assertEqual(lacking(dishes, larder, "aubergines"), (5, 0, 0, 0, 0, 0, 0))


if __name__ == "__main__":
    unittest.main()
