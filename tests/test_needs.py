"""Tests of [4], and of what [1] and [2] say of it."""

import copy
import unittest

from larderlist import needs
from larderlist.needs import DAYS, MOST, from_day, needed, things_of

NOTHING = (0, 0, 0, 0, 0, 0, 0)

WEEK = (
    (5, (("milk", 7), ("egg", 2), ("milk", 1))),
    (1, (("flour", 200), ("egg", 1))),
    (5, (("egg", 30),)),
    (7, ()),
    (3, (("milk", 4),)),
)


def letters(number):
    """A name of its own for each number from 0 to 675."""
    return chr(ord("a") + number // 26) + chr(ord("a") + number % 26)


def many_dishes():
    """60 dishes of 20 needs each: dish k needs k + 1 of each of its names."""
    return tuple(
        (k % 7 + 1, tuple((letters((k + j) % 70), k + 1) for j in range(20)))
        for k in range(60)
    )


class Needs(unittest.TestCase):
    def assert_whole(self, numbers):
        self.assertIs(type(numbers), tuple)
        self.assertEqual(len(numbers), 7)
        for number in numbers:
            self.assertIs(type(number), int)


class Numbers(unittest.TestCase):
    def test_days_and_most(self):
        self.assertEqual((DAYS, MOST), (7, 200))
        self.assertIs(type(DAYS), int)
        self.assertIs(type(MOST), int)

    def test_each_function_is_defined_in_its_file(self):
        for told in (things_of, needed, from_day):
            self.assertEqual(told.__module__, needs.__name__)


class ThingsOf(unittest.TestCase):
    def test_each_name_once_by_the_alphabet(self):
        self.assertEqual(things_of(WEEK), ("egg", "flour", "milk"))

    def test_no_dishes(self):
        self.assertEqual(things_of(()), ())

    def test_dishes_without_needs(self):
        self.assertEqual(things_of(((1, ()), (7, ()))), ())

    def test_a_name_that_comes_more_than_once_in_one_dish(self):
        self.assertEqual(things_of(((2, (("egg", 1), ("egg", 1), ("egg", 2))),)), ("egg",))

    def test_a_name_that_comes_in_several_dishes(self):
        dishes = ((2, (("egg", 1),)), (2, (("egg", 1),)), (6, (("egg", 9),)))
        self.assertEqual(things_of(dishes), ("egg",))

    def test_names_that_are_alike_but_for_one_sign(self):
        dishes = ((1, (("eggs", 1), ("ega", 1), ("egg", 1), ("agg", 1), ("eg", 1), ("egh", 1))),)
        self.assertEqual(things_of(dishes), ("agg", "eg", "ega", "egg", "eggs", "egh"))

    def test_the_alphabet_goes_ahead_of_length_day_and_order(self):
        dishes = ((1, (("z", 200),)), (2, (("bbbbbbbb", 1),)), (7, (("c", 1), ("aaaaaaaa", 5))))
        self.assertEqual(things_of(dishes), ("aaaaaaaa", "bbbbbbbb", "c", "z"))

    def test_many_dishes(self):
        self.assertEqual(things_of(many_dishes()), tuple(letters(k) for k in range(70)))

    def test_the_answer_is_a_tuple_of_texts(self):
        for dishes in ((), WEEK, many_dishes()):
            told = things_of(dishes)
            self.assertIs(type(told), tuple)
            for name in told:
                self.assertIs(type(name), str)


class Needed(Needs):
    def test_the_needs_of_a_day_are_summed(self):
        self.assertEqual(needed(WEEK, "egg"), (1, 0, 0, 0, 32, 0, 0))
        self.assertEqual(needed(WEEK, "flour"), (200, 0, 0, 0, 0, 0, 0))

    def test_a_name_that_comes_more_than_once_in_one_dish(self):
        self.assertEqual(needed(WEEK, "milk"), (0, 0, 4, 0, 8, 0, 0))

    def test_alike_needs_and_alike_dishes_count_each(self):
        dish = (4, (("egg", 3), ("egg", 3)))
        self.assertEqual(needed((dish, dish), "egg"), (0, 0, 0, 12, 0, 0, 0))

    def test_no_dishes(self):
        self.assertEqual(needed((), "egg"), NOTHING)

    def test_dishes_without_needs(self):
        self.assertEqual(needed(((1, ()), (7, ())), "egg"), NOTHING)

    def test_a_name_that_no_dish_needs(self):
        self.assertEqual(needed(WEEK, "salt"), NOTHING)

    def test_names_that_are_alike_but_for_one_sign(self):
        dishes = ((1, (("eggs", 1), ("ega", 2), ("egg", 4), ("agg", 8), ("eg", 16))),)
        told = [needed(dishes, name)[0] for name in ("eggs", "ega", "egg", "agg", "eg", "e", "g")]
        self.assertEqual(told, [1, 2, 4, 8, 16, 0, 0])

    def test_each_day(self):
        for day in range(1, 8):
            with self.subTest(day=day):
                expected = tuple(5 if at == day else 0 for at in range(1, 8))
                self.assertEqual(needed(((day, (("egg", 5),)),), "egg"), expected)

    def test_all_days_at_once_in_any_order(self):
        dishes = tuple((day, (("egg", day * 10),)) for day in (4, 7, 1, 3, 6, 2, 5))
        self.assertEqual(needed(dishes, "egg"), (10, 20, 30, 40, 50, 60, 70))

    def test_amounts_from_1_to_200(self):
        for amount in range(1, 201):
            with self.subTest(amount=amount):
                dishes = ((2, (("egg", amount), ("milk", 1))),)
                self.assertEqual(needed(dishes, "egg"), (0, amount, 0, 0, 0, 0, 0))

    def test_many_dishes(self):
        dishes = many_dishes()
        for number in (0, 1, 19, 20, 35, 69):
            name = letters(number)
            expected = [0] * 7
            for k in range(60):
                if (number - k) % 70 < 20:
                    expected[k % 7] += k + 1
            with self.subTest(name=name):
                self.assertEqual(needed(dishes, name), tuple(expected))

    def test_many_dishes_of_one_name(self):
        dishes = tuple((7, (("egg", 200),) * 20) for _ in range(60))
        self.assertEqual(needed(dishes, "egg"), (0, 0, 0, 0, 0, 0, 240000))

    def test_the_answer_is_a_tuple_of_whole_numbers(self):
        for dishes in ((), WEEK, many_dishes()):
            for name in ("egg", "aa", "salt"):
                self.assert_whole(needed(dishes, name))


class FromDay(Needs):
    def test_the_sums_from_each_day_on(self):
        self.assertEqual(from_day((1, 2, 4, 8, 16, 32, 64)), (127, 126, 124, 120, 112, 96, 64))

    def test_nothing(self):
        self.assertEqual(from_day(NOTHING), NOTHING)

    def test_one_day_counts_for_itself_and_the_days_ahead_of_it(self):
        for day in range(1, 8):
            with self.subTest(day=day):
                amounts = tuple(9 if at == day else 0 for at in range(1, 8))
                expected = tuple(9 if at <= day else 0 for at in range(1, 8))
                self.assertEqual(from_day(amounts), expected)

    def test_of_what_needed_gives(self):
        self.assertEqual(from_day(needed(WEEK, "egg")), (33, 32, 32, 32, 32, 0, 0))
        self.assertEqual(from_day(needed(WEEK, "milk")), (12, 12, 12, 8, 8, 0, 0))
        self.assertEqual(from_day(needed(WEEK, "flour")), (200, 0, 0, 0, 0, 0, 0))
        self.assertEqual(from_day(needed(WEEK, "salt")), NOTHING)

    def test_the_answer_is_a_tuple_of_whole_numbers(self):
        for amounts in (NOTHING, (1, 2, 4, 8, 16, 32, 64), needed(many_dishes(), "aa")):
            self.assert_whole(from_day(amounts))

    def test_the_answer_is_made_anew(self):
        amounts = needed((), "egg")
        self.assertIsNot(from_day(amounts), amounts)


class AsItWas(unittest.TestCase):
    def test_what_is_handed_in_stands_as_it_was(self):
        dishes, amounts = many_dishes(), (1, 2, 4, 8, 16, 32, 64)
        before = copy.deepcopy((dishes, amounts))
        things_of(dishes)
        needed(dishes, "aa")
        from_day(amounts)
        self.assertEqual((dishes, amounts), before)

    def test_asked_again_it_answers_the_same(self):
        self.assertEqual(things_of(WEEK), things_of(WEEK))
        self.assertEqual(needed(WEEK, "egg"), needed(WEEK, "egg"))
        self.assertEqual(needed((), "egg"), NOTHING)

    def test_somewhat_beyond_the_limits_nothing_is_refused(self):
        dishes = tuple((k % 7 + 1, (("aubergines", 201),) * 21) for k in range(63))
        self.assertEqual(things_of(dishes), ("aubergines",))
        self.assertEqual(needed(dishes, "aubergines"), (201 * 21 * 9,) * 7)
        self.assertEqual(from_day((300,) * 7), (2100, 1800, 1500, 1200, 900, 600, 300))


if __name__ == "__main__":
    unittest.main()
