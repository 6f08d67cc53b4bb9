"""Tests of [9] and [10], and of what [1] and [2] say of them."""

import copy
import unittest

import model
from larderlist import cooking
from larderlist.cooking import cooked, ends
from larderlist.errors import LarderError, Short

LARDER = (
    ("egg", 2, 9),
    ("egg", 3, 4),
    ("milk", 5, 2),
    ("egg", 1, 4),
    ("egg", 4, 2),
)


def one_need(day, name, amount):
    return (day, ((name, amount),))


def many_dishes():
    """60 dishes of 20 needs each, of five names, the later days among the first ones."""
    return tuple(
        ((60 - k) % 7 + 1, tuple(("abcde"[(k + j) % 5], 1 + (k * j) % 3) for j in range(20)))
        for k in range(60)
    )


def many_batches(amount):
    """200 batches of five names, a third of them with a last day within the week."""
    return tuple(("abcde"[k % 5], amount, 7 + k % 3 if k % 3 else k % 9 + 1) for k in range(200))


class Cooked(unittest.TestCase):
    def assert_short(self, name, dishes, larder):
        with self.assertRaises(Short) as caught:
            cooked(dishes, larder)
        self.assertEqual(caught.exception.word, name)

    def test_no_dishes(self):
        self.assertEqual(cooked((), ()), ())
        self.assertEqual(cooked((), LARDER), ())

    def test_dishes_without_needs(self):
        self.assertEqual(cooked(((1, ()), (7, ())), ()), ((), ()))
        self.assertEqual(cooked(((7, ()), one_need(1, "milk", 1), (2, ())), LARDER), ((), ((2, 1),), ()))

    def test_an_earlier_last_day_first_then_the_lesser_number(self):
        self.assertEqual(cooked((one_need(1, "egg", 10),), LARDER), (((4, 4), (1, 3), (3, 1), (0, 2)),))

    def test_the_last_one_for_what_is_still_needed(self):
        self.assertEqual(cooked((one_need(1, "egg", 6),), LARDER), (((4, 4), (1, 2)),))
        self.assertEqual(cooked((one_need(1, "egg", 4),), LARDER), (((4, 4),),))
        self.assertEqual(cooked((one_need(1, "egg", 1),), LARDER), (((4, 1),),))

    def test_two_batches_with_the_same_last_day(self):
        for last in (1, 7, 8, 99):
            larder = (("egg", 2, last), ("egg", 9, last), ("egg", 2, last))
            with self.subTest(last=last):
                self.assertEqual(cooked((one_need(1, "egg", 3),), larder), (((0, 2), (1, 1)),))
                self.assertEqual(cooked((one_need(1, "egg", 12),), larder), (((0, 2), (1, 9), (2, 1)),))

    def test_the_last_day_goes_ahead_of_number_and_amount(self):
        larder = (("egg", 1, 99), ("egg", 200, 10), ("egg", 3, 9), ("egg", 2, 8))
        self.assertEqual(cooked((one_need(7, "egg", 6),), larder), (((3, 2), (2, 3), (1, 1)),))

    def test_dishes_of_one_day_in_the_order_in_which_they_are_handed_in(self):
        dishes = (one_need(3, "egg", 3), one_need(3, "egg", 2), one_need(3, "egg", 1))
        self.assertEqual(cooked(dishes, LARDER), (((1, 3),), ((3, 1), (0, 1)), ((0, 1),)))
        # What is needed has no part in the order.
        dishes = (one_need(3, "egg", 1), one_need(3, "egg", 3), one_need(3, "egg", 2))
        self.assertEqual(cooked(dishes, LARDER), (((1, 1),), ((1, 2), (3, 1)), ((0, 2),)))

    def test_a_later_day_handed_in_first_is_cooked_later(self):
        dishes = (one_need(4, "egg", 3), one_need(1, "egg", 6))
        self.assertEqual(cooked(dishes, LARDER), (((1, 1), (3, 1), (0, 1)), ((4, 4), (1, 2))))

    def test_the_answer_is_in_the_order_of_dishes_as_handed_in(self):
        larder = (("egg", 99, 9),)
        dishes = tuple(one_need(day, "egg", day) for day in (5, 2, 7, 1, 6, 3, 4))
        self.assertEqual(cooked(dishes, larder), tuple(((0, day),) for day in (5, 2, 7, 1, 6, 3, 4)))

    def test_the_needs_of_a_dish_in_their_order(self):
        dish = (2, (("milk", 1), ("egg", 5), ("milk", 2)))
        self.assertEqual(cooked((dish,), LARDER), (((2, 1), (4, 4), (1, 1), (2, 2)),))

    def test_a_name_that_comes_twice_in_one_dish(self):
        dish = (3, (("egg", 1), ("egg", 1)))
        # One batch for two needs: two pairs, though they stand side by side.
        self.assertEqual(cooked((dish,), LARDER), (((1, 1), (1, 1)),))
        dish = (3, (("egg", 2), ("egg", 3)))
        self.assertEqual(cooked((dish,), LARDER), (((1, 2), (1, 1), (3, 1), (0, 1)),))

    def test_a_last_day_that_is_the_dishs_day_and_one_ahead_of_it(self):
        for last in range(1, 8):
            for day in range(1, 8):
                with self.subTest(last=last, day=day):
                    larder = (("egg", 5, last), ("egg", 5, 50))
                    first = 0 if day <= last else 1
                    self.assertEqual(cooked((one_need(day, "egg", 5),), larder), (((first, 5),),))
                    if day <= last:
                        self.assertEqual(cooked((one_need(day, "egg", 5),), larder[:1]), (((0, 5),),))
                    else:
                        self.assert_short("egg", (one_need(day, "egg", 1),), larder[:1])

    def test_what_is_spoilt_on_a_later_day_was_still_good_on_an_earlier_one(self):
        larder = (("egg", 5, 2), ("egg", 5, 6))
        dishes = (one_need(3, "egg", 1), one_need(2, "egg", 1), one_need(6, "egg", 1), one_need(2, "egg", 1))
        self.assertEqual(cooked(dishes, larder), (((1, 1),), ((0, 1),), ((1, 1),), ((0, 1),)))

    def test_batches_of_another_name_are_not_used(self):
        larder = (("eggs", 200, 9), ("eg", 200, 9), ("ega", 200, 9), ("egg", 1, 9))
        self.assertEqual(cooked((one_need(1, "egg", 1),), larder), (((3, 1),),))
        self.assert_short("egg", (one_need(1, "egg", 2),), larder)

    def test_just_enough_and_one_too_few(self):
        self.assertEqual(len(cooked((one_need(4, "egg", 6),), LARDER)[0]), 3)
        self.assert_short("egg", (one_need(4, "egg", 7),), LARDER)
        self.assert_short("egg", (one_need(4, "egg", 6), one_need(7, "egg", 1)), LARDER)
        self.assert_short("salt", (one_need(1, "salt", 1),), LARDER)
        self.assert_short("salt", (one_need(1, "salt", 1),), ())

    def test_short_with_the_first_need_so_in_the_order_of_cooking(self):
        # Handed in later, cooked earlier.
        dishes = (one_need(5, "a", 1), one_need(2, "z", 1), one_need(3, "m", 1))
        self.assert_short("z", dishes, LARDER)
        # Of one day, the dish that is handed in first; of a dish, the first need.
        self.assert_short("z", (one_need(2, "z", 1), one_need(2, "a", 1)), LARDER)
        self.assert_short("z", ((2, (("milk", 1), ("z", 1), ("a", 1))),), LARDER)

    def test_the_need_that_comes_too_late_is_the_one_that_is_short(self):
        # The milk of 5 goes to day 1 and to the first dish of day 2.
        dishes = (
            (2, (("milk", 2), ("milk", 1))),
            (2, (("egg", 99), ("milk", 9))),
            (1, (("milk", 3), ("egg", 1))),
        )
        self.assert_short("milk", dishes, LARDER)
        self.assert_short("egg", dishes, LARDER + (("milk", 1, 9),))

    def test_short_is_a_refusal_and_a_value_error(self):
        for above in (Short, LarderError, ValueError):
            self.assertRaises(above, cooked, (one_need(1, "egg", 1),), ())

    def test_a_whole_larder(self):
        dishes = many_dishes()
        self.assertEqual(cooked(dishes, many_batches(10)), model.cooked(dishes, many_batches(10)))
        self.assert_short("e", dishes, many_batches(9))
        self.assert_short("d", dishes, many_batches(6))

    def test_a_larder_of_more_than_200_batches(self):
        larder = tuple(("egg", 200, 99) for _ in range(1300))
        dishes = tuple((7, (("egg", 200),) * 20) for _ in range(60))
        uses = cooked(dishes, larder)
        self.assertEqual([pair for pairs in uses for pair in pairs], [(k, 200) for k in range(1200)])
        self.assert_short("egg", dishes, larder[:1199])

    def test_weeks_made(self):
        refused = 0
        for dishes, larder, _ in model.weeks_made(600, dishes=4, batches=14):
            told = model.cooked(dishes, larder)
            with self.subTest(dishes=dishes, larder=larder):
                if isinstance(told, str):
                    refused += 1
                    self.assert_short(told, dishes, larder)
                else:
                    self.assertEqual(cooked(dishes, larder), told)
        self.assertTrue(100 < refused < 500, refused)

    def test_it_is_made_of_tuples_and_whole_numbers(self):
        uses = cooked((one_need(4, "egg", 3), (5, ()), one_need(1, "egg", 6)), LARDER)
        self.assertIs(type(uses), tuple)
        for pairs in uses:
            self.assertIs(type(pairs), tuple)
            for pair in pairs:
                self.assertIs(type(pair), tuple)
                self.assertEqual([type(number) for number in pair], [int, int])


class Ends(unittest.TestCase):
    def test_no_batches(self):
        self.assertEqual(ends((), ()), ())
        self.assertEqual(ends((), ((), ())), ())

    def test_a_batch_that_is_not_used_at_all(self):
        for uses in ((), ((),), ((), ())):
            self.assertEqual(ends((("egg", 5, 3), ("egg", 5, 9)), uses), ((0, 5, 0), (0, 0, 5)))

    def test_a_last_day_ahead_of_day_7_on_it_and_behind_it(self):
        for last in (1, 2, 3, 4, 5, 6):
            with self.subTest(last=last):
                self.assertEqual(ends((("egg", 5, last),), (((0, 2),),)), ((2, 3, 0),))
        for last in (7, 8, 9, 99):
            with self.subTest(last=last):
                self.assertEqual(ends((("egg", 5, last),), (((0, 2),),)), ((2, 0, 3),))

    def test_used_whole_in_part_and_not_at_all(self):
        larder = tuple(("egg", 200, last) for last in (6, 7, 6, 7, 6, 7))
        uses = (((0, 200), (2, 199)), ((1, 200), (3, 1)))
        told = ((200, 0, 0), (200, 0, 0), (199, 1, 0), (1, 0, 199), (0, 200, 0), (0, 0, 200))
        self.assertEqual(ends(larder, uses), told)

    def test_all_pairs_of_a_batch_count(self):
        uses = (((0, 1), (1, 2), (0, 1)), (), ((1, 1), (0, 3)))
        self.assertEqual(ends((("egg", 9, 9), ("ham", 9, 1)), uses), ((5, 0, 4), (3, 6, 0)))

    def test_uses_of_any_kind_not_of_cooked_alone(self):
        # Past its last day, and in any order: ends only counts.
        uses = (((2, 1),), ((0, 4), (2, 1)))
        larder = (("egg", 4, 1), ("egg", 4, 2), ("ham", 4, 8))
        self.assertEqual(ends(larder, uses), ((4, 0, 0), (0, 4, 0), (2, 0, 2)))

    def test_of_what_cooked_gives(self):
        dishes = (one_need(4, "egg", 3), one_need(1, "egg", 5))
        uses = cooked(dishes, LARDER)
        self.assertEqual(ends(LARDER, uses), ((0, 0, 2), (3, 0, 0), (0, 5, 0), (1, 0, 0), (4, 0, 0)))

    def test_a_whole_larder(self):
        larder = many_batches(15)
        uses = cooked(many_dishes(), larder)
        told = ends(larder, uses)
        self.assertEqual(len(told), 200)
        for at, (name, amount, last) in enumerate(larder):
            used = sum(part for pairs in uses for batch, part in pairs if batch == at)
            rest = amount - used
            self.assertEqual(told[at], (used, rest, 0) if last <= 6 else (used, 0, rest))

    def test_it_is_made_of_tuples_and_whole_numbers(self):
        for uses in ((), (((0, 2), (4, 4)), ((1, 3),))):
            told = ends(LARDER, uses)
            self.assertIs(type(told), tuple)
            for triple in told:
                self.assertIs(type(triple), tuple)
                self.assertEqual([type(number) for number in triple], [int, int, int])


class AsItWas(unittest.TestCase):
    def test_each_function_is_defined_in_its_file(self):
        for told in (cooked, ends):
            self.assertEqual(told.__module__, cooking.__name__)

    def test_what_is_handed_in_stands_as_it_was(self):
        dishes, larder = many_dishes(), many_batches(15)
        before = copy.deepcopy((dishes, larder))
        uses = cooked(dishes, larder)
        kept = copy.deepcopy(uses)
        ends(larder, uses)
        self.assertEqual((dishes, larder), before)
        self.assertEqual(uses, kept)

    def test_asked_again_it_answers_the_same(self):
        dishes = (one_need(4, "egg", 3), one_need(1, "egg", 6))
        self.assertEqual(cooked(dishes, LARDER), cooked(dishes, LARDER))
        self.assertRaises(Short, cooked, dishes + (one_need(2, "egg", 9),), LARDER)
        self.assertEqual(cooked(dishes, LARDER), (((1, 1), (3, 1), (0, 1)), ((4, 4), (1, 2))))

    def test_somewhat_beyond_the_limits_nothing_is_refused(self):
        larder = (("aubergines", 0, 0), ("aubergines", 300, 100), ("aubergines", 0, 9))
        dishes = ((8, (("aubergines", 250),)), (0, (("aubergines", 0),)), (2, (("aubergines", 50),)))
        uses = cooked(dishes, larder)
        self.assertEqual(uses, (((1, 250),), (), ((1, 50),)))
        self.assertEqual(ends(larder, uses), ((0, 0, 0), (300, 0, 0), (0, 0, 0)))


if __name__ == "__main__":
    unittest.main()
