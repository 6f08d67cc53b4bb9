"""Tests of [6], [7] and [8], and of what [1] and [2] say of them."""

import copy
import unittest

import model
from larderlist import tables
from larderlist.tables import bought, price_of, serves, table

NOTHING = (0, 0, 0, 0, 0, 0, 0)

OFFERS = ((5, 7, 9), (1, 3, 2), (5, 7, 9), (200, 0, 4), (3, 1000000, 7))


def lack_on(day, amount):
    """Seven lacks: the amount on the day, 0 on the other ones."""
    return tuple(amount if at == day else 0 for at in range(1, 8))


class PriceOf(unittest.TestCase):
    def test_the_price_of_all(self):
        self.assertEqual(price_of(OFFERS, (1, 2, 0, 3, 4)), 7 + 2 * 3 + 4 * 1000000)

    def test_alike_offers_count_each(self):
        self.assertEqual(price_of(OFFERS, (2, 0, 3, 0, 0)), 35)

    def test_no_offers(self):
        self.assertEqual(price_of((), ()), 0)

    def test_counts_of_0(self):
        self.assertEqual(price_of(OFFERS, (0, 0, 0, 0, 0)), 0)

    def test_a_price_of_0(self):
        self.assertEqual(price_of(((4, 0, 9), (2, 0, 1)), (200, 1)), 0)

    def test_size_and_last_day_are_no_part_of_it(self):
        for size in (1, 200):
            for last in (1, 7, 99):
                self.assertEqual(price_of(((size, 11, last),), (3,)), 33)

    def test_it_is_a_whole_number(self):
        for offers, counts in (((), ()), (OFFERS, (0,) * 5), (OFFERS, (1,) * 5)):
            self.assertIs(type(price_of(offers, counts)), int)


class Serves(unittest.TestCase):
    def test_no_offers_serve_just_where_nothing_lacks(self):
        self.assertIs(serves((), (), NOTHING), True)
        for day in range(1, 8):
            with self.subTest(day=day):
                self.assertIs(serves((), (), lack_on(day, 1)), False)

    def test_counts_of_0_hold_nothing(self):
        self.assertIs(serves(OFFERS, (0,) * 5, NOTHING), True)
        for day in range(1, 8):
            with self.subTest(day=day):
                self.assertIs(serves(OFFERS, (0,) * 5, lack_on(day, 1)), False)

    def test_just_what_is_held_and_one_more_on_each_day(self):
        offers = tuple((day * 3, 1, day) for day in range(1, 8)) + ((2, 1, 8), (1, 1, 99))
        counts = (1, 2, 1, 0, 3, 1, 2, 1, 4)
        just = (3 + 12 + 9 + 45 + 18 + 42 + 6, 12 + 9 + 45 + 18 + 42 + 6, 9 + 45 + 18 + 42 + 6,
                45 + 18 + 42 + 6, 45 + 18 + 42 + 6, 18 + 42 + 6, 42 + 6)
        self.assertIs(serves(offers, counts, just), True)
        for day in range(1, 8):
            with self.subTest(day=day):
                more = tuple(lack + (at == day) for at, lack in enumerate(just, start=1))
                self.assertIs(serves(offers, counts, more), False)
                self.assertIs(serves(offers, counts, lack_on(day, just[day - 1])), True)
                self.assertIs(serves(offers, counts, lack_on(day, just[day - 1] + 1)), False)

    def test_a_last_day_counts_on_itself_and_ahead_of_it(self):
        for last in (1, 2, 3, 4, 5, 6, 7, 8, 99):
            for day in range(1, 8):
                with self.subTest(last=last, day=day):
                    told = serves(((3, 5, last),), (2,), lack_on(day, 6))
                    self.assertIs(told, day <= last)
                    self.assertIs(serves(((3, 5, last),), (2,), lack_on(day, 7)), False)

    def test_what_one_day_lacks_is_not_taken_off_for_another(self):
        self.assertIs(serves(((6, 5, 9),), (1,), (6,) * 7), True)

    def test_200_on_each_day(self):
        self.assertIs(serves(((1, 5, 7),), (200,), (200,) * 7), True)
        self.assertIs(serves(((1, 5, 7),), (199,), (200,) * 7), False)

    def test_a_price_of_0_is_as_good_as_another(self):
        self.assertIs(serves(((4, 0, 9),), (1,), (4,) * 7), True)


class Table(unittest.TestCase):
    def test_all_lacks_0(self):
        for offers in ((), OFFERS, ((1, 0, 9),)):
            self.assertEqual(table(offers, NOTHING), ((0,),) * 7)

    def test_no_offers(self):
        empty, nothing = (0, None, None, None), (None, None, None, None)
        self.assertEqual(table((), lack_on(1, 3)), (empty,) * 7)
        self.assertEqual(table((), lack_on(2, 3)), (nothing,) + (empty,) * 6)
        self.assertEqual(table((), lack_on(7, 3)), (nothing,) * 6 + (empty,))

    def test_cells_from_0_up_to_the_greatest_lack(self):
        for day in range(1, 8):
            for amount in (1, 2, 199, 200):
                rows = table(OFFERS, lack_on(day, amount))
                self.assertEqual([len(row) for row in rows], [amount + 1] * 7)

    def test_the_days_own_lack_is_not_looked_at(self):
        rows = table(((4, 5, 9),), lack_on(4, 3))
        self.assertEqual(rows, ((5, 5, 5, 5),) * 3 + ((0, 5, 5, 5),) * 4)

    def test_an_offer_is_there_up_to_its_last_day(self):
        for last in range(1, 8):
            with self.subTest(last=last):
                rows = table(((1, 5, last),), lack_on(1, 2))
                self.assertEqual(rows, ((0, 5, 10),) * last + ((0, None, None),) * (7 - last))

    def test_what_keeps_beyond_the_week_is_there_on_day_7(self):
        for last in (7, 8, 99):
            with self.subTest(last=last):
                self.assertEqual(table(((1, 5, last),), lack_on(1, 2)), ((0, 5, 10),) * 7)

    def test_on_day_7_the_amount_0_costs_0(self):
        for lacks in (lack_on(7, 3), (3,) * 7):
            for offers in ((), OFFERS, ((1, 0, 9),), ((2, 5, 8),)):
                with self.subTest(offers=offers, lacks=lacks):
                    self.assertEqual(table(offers, lacks)[6][0], 0)

    def test_an_amount_for_which_there_is_no_buying(self):
        # To day 3 one has the pack of day 2 no more, so behind day 2 nothing serves.
        rows = table(((4, 5, 2),), (1, 0, 2, 0, 0, 0, 0))
        self.assertEqual(rows, ((None,) * 3,) * 2 + ((0, None, None),) * 5)

    def test_a_size_greater_than_the_amount(self):
        self.assertEqual(table(((200, 5, 9),), lack_on(1, 2)), ((0, 5, 5),) * 7)
        # Going on by the small one costs more than the one that is far too big.
        self.assertEqual(table(((200, 5, 9), (1, 3, 9)), lack_on(1, 2)), ((0, 3, 5),) * 7)

    def test_a_price_of_0(self):
        self.assertEqual(table(((1, 0, 3),), lack_on(1, 2)), ((0, 0, 0),) * 3 + ((0, None, None),) * 4)

    def test_one_pack_serves_several_days(self):
        rows = table(((3, 10, 9), (3, 4, 2)), (3, 3, 0, 0, 2, 0, 0))
        self.assertEqual(rows[0], (10, 10, 10, 10))
        self.assertEqual(rows[3], (10, 10, 10, 10))
        self.assertEqual(rows[4], (0, 10, 10, 10))

    def test_a_late_pack_and_an_early_one_together(self):
        rows = table(((2, 10, 9), (3, 4, 2)), (5, 0, 0, 0, 2, 0, 0))
        self.assertEqual(rows[0], (10, 10, 10, 14, 14, 14))
        self.assertEqual(rows[2], (10, 10, 10, 20, 20, 30))

    def test_it_is_the_least_price_of_all_buyings(self):
        for offers, lacks in model.tables_made():
            with self.subTest(offers=offers, lacks=lacks):
                self.assertEqual(table(offers, lacks), model.table(offers, lacks))

    def test_it_is_made_of_tuples_and_whole_numbers(self):
        for offers, lacks in (((), (2,) * 7), (OFFERS, (3, 0, 2, 0, 0, 0, 9)), (OFFERS, NOTHING)):
            rows = table(offers, lacks)
            self.assertIs(type(rows), tuple)
            self.assertEqual(len(rows), 7)
            for row in rows:
                self.assertIs(type(row), tuple)
                for price in row:
                    self.assertIn(type(price), (int, type(None)))


class Bought(unittest.TestCase):
    def test_nothing_lacks(self):
        self.assertEqual(bought((), NOTHING), ())
        self.assertEqual(bought(OFFERS, NOTHING), (0, 0, 0, 0, 0))
        self.assertEqual(bought(((1, 0, 9), (2, 0, 1)), NOTHING), (0, 0))

    def test_none_where_no_buying_serves(self):
        for day in range(1, 8):
            with self.subTest(day=day):
                self.assertIsNone(bought((), lack_on(day, 1)))
        for day in range(2, 8):
            with self.subTest(day=day):
                self.assertIsNone(bought(((200, 0, day - 1),), lack_on(day, 1)))

    def test_none_there_alone(self):
        for last in range(1, 9):
            for day in range(1, 8):
                with self.subTest(last=last, day=day):
                    told = bought(((3, 5, last),), lack_on(day, 4))
                    self.assertEqual(told, (2,) if day <= last else None)

    def test_the_first_of_two_offers_that_are_alike(self):
        self.assertEqual(bought(((5, 7, 9), (5, 7, 9)), (10,) * 7), (2, 0))
        self.assertEqual(bought(((9, 99, 1), (5, 7, 4), (5, 7, 4)), lack_on(3, 1)), (0, 1, 0))

    def test_of_two_with_the_same_price_the_first_one_that_fits(self):
        # On day 7 those that keep beyond the week are looked at in order, all alike.
        for lasts in ((7, 8), (8, 7), (99, 7), (7, 7)):
            with self.subTest(lasts=lasts):
                offers = ((5, 7, lasts[0]), (6, 7, lasts[1]))
                self.assertEqual(bought(offers, lack_on(1, 5)), (1, 0))
                self.assertEqual(bought(offers, lack_on(1, 6)), (0, 1))

    def test_where_going_on_costs_the_same_the_walk_goes_on(self):
        self.assertEqual(bought(((5, 7, 1), (5, 7, 9)), lack_on(1, 5)), (0, 1))
        self.assertEqual(bought(((5, 7, 1), (5, 7, 2), (5, 7, 1)), lack_on(1, 5)), (0, 1, 0))
        self.assertEqual(bought(((5, 6, 1), (5, 7, 9)), lack_on(1, 5)), (1, 0))

    def test_on_a_day_only_offers_of_the_day_are_taken(self):
        # On day 1 the third one is needed; what goes with it is told by the days behind.
        self.assertEqual(bought(((5, 4, 3), (5, 4, 9), (3, 2, 1)), lack_on(1, 8)), (0, 1, 1))
        self.assertEqual(bought(((5, 4, 9), (5, 4, 3), (3, 2, 1)), lack_on(1, 8)), (1, 0, 1))

    def test_where_several_buyings_cost_the_same_the_first_offer_is_taken_while_it_may(self):
        self.assertEqual(bought(((2, 2, 9), (4, 4, 9)), lack_on(1, 6)), (3, 0))
        self.assertEqual(bought(((4, 4, 9), (2, 2, 9)), lack_on(1, 6)), (1, 1))
        self.assertEqual(bought(((4, 4, 9), (2, 2, 9)), lack_on(1, 8)), (2, 0))
        self.assertEqual(bought(((3, 4, 9), (2, 2, 9)), lack_on(1, 5)), (1, 1))

    def test_a_price_of_0(self):
        self.assertEqual(bought(((1, 0, 9), (3, 0, 9)), lack_on(1, 3)), (3, 0))
        self.assertEqual(bought(((3, 0, 9), (1, 0, 9)), lack_on(1, 4)), (2, 0))
        self.assertEqual(bought(((1, 0, 1), (3, 5, 9)), (3, 1, 0, 0, 0, 0, 0)), (0, 1))
        self.assertEqual(bought(((1, 0, 1), (2, 5, 9)), (3, 1, 0, 0, 0, 0, 0)), (1, 1))

    def test_a_size_greater_than_the_amount(self):
        self.assertEqual(bought(((200, 5, 9),), lack_on(7, 1)), (1,))
        self.assertEqual(bought(((200, 5, 9), (1, 3, 9)), lack_on(7, 2)), (1, 0))
        self.assertEqual(bought(((200, 5, 9), (1, 3, 9)), lack_on(7, 1)), (0, 1))

    def test_a_day_behind_that_lacks_more_is_served(self):
        self.assertEqual(bought(((1, 2, 9), (1, 1, 3)), (2, 0, 0, 0, 5, 0, 0)), (5, 0))
        self.assertEqual(bought(((1, 2, 9), (1, 1, 3)), (7, 0, 0, 0, 5, 0, 0)), (5, 2))
        self.assertEqual(bought(((1, 2, 5), (1, 1, 3)), (0, 0, 7, 0, 5, 0, 0)), (5, 2))

    def test_200_on_a_day(self):
        self.assertEqual(bought(((1, 1, 7),), lack_on(7, 200)), (200,))
        self.assertEqual(bought(((7, 1000000, 7), (200, 1000000, 7)), (200,) * 7), (0, 1))
        # (0, 29) and (2, 28) cost 174, too.
        self.assertEqual(bought(((3, 3, 9), (7, 6, 9)), (200,) * 7), (6, 26))

    def test_it_serves_and_no_other_buying_undercuts_it(self):
        for offers, lacks in model.tables_made():
            with self.subTest(offers=offers, lacks=lacks):
                counts, least = bought(offers, lacks), model.least_price(offers, lacks)
                if least is None:
                    self.assertIsNone(counts)
                else:
                    self.assertIs(serves(offers, counts, lacks), True)
                    self.assertEqual(price_of(offers, counts), least)

    def test_it_is_where_the_walk_leads(self):
        for offers, lacks in model.tables_made():
            with self.subTest(offers=offers, lacks=lacks):
                self.assertEqual(bought(offers, lacks), model.walk(offers, lacks))

    def test_it_is_a_tuple_of_whole_numbers(self):
        for offers, lacks in (((), NOTHING), (OFFERS, NOTHING), (OFFERS, (9, 8, 7, 6, 5, 4, 3))):
            counts = bought(offers, lacks)
            self.assertIs(type(counts), tuple)
            self.assertEqual(len(counts), len(offers))
            for count in counts:
                self.assertIs(type(count), int)


class AsItWas(unittest.TestCase):
    def test_each_function_is_defined_in_its_file(self):
        for told in (price_of, serves, table, bought):
            self.assertEqual(told.__module__, tables.__name__)

    def test_what_is_handed_in_stands_as_it_was(self):
        offers, counts, lacks = copy.deepcopy(OFFERS), (1, 2, 3, 4, 5), (9, 8, 7, 6, 5, 4, 3)
        before = copy.deepcopy((offers, counts, lacks))
        price_of(offers, counts)
        serves(offers, counts, lacks)
        table(offers, lacks)
        bought(offers, lacks)
        self.assertEqual((offers, counts, lacks), before)

    def test_asked_again_it_answers_the_same(self):
        lacks = (9, 8, 7, 6, 5, 4, 3)
        self.assertEqual(table(OFFERS, lacks), table(OFFERS, lacks))
        self.assertEqual(bought(OFFERS, lacks), bought(OFFERS, lacks))
        self.assertEqual(table((), NOTHING), ((0,),) * 7)

    def test_somewhat_beyond_the_limits_nothing_is_refused(self):
        offers = ((0, 0, 9), (201, 1000001, 100), (0, 5, 3), (-1, 2, 9), (5, 1, 0))
        for lacks in ((201,) * 7, (205, 0, 0, 203, 0, 0, 0), (0, 1, 0, 0, 0, 0, 202)):
            with self.subTest(lacks=lacks):
                self.assertEqual(len(table(offers, lacks)), 7)
                counts = bought(offers, lacks)
                self.assertIs(serves(offers, counts, lacks), True)
                self.assertEqual(counts[1], price_of(offers, counts) // 1000001)
        self.assertEqual(bought(offers, (-1,) * 7), (0,) * 5)
        self.assertEqual(bought(offers, (-1, 3, -1, -1, -1, -1, -1)), (0, 1, 0, 0, 0))
        self.assertIs(serves(offers, (0,) * 5, (-1,) * 7), True)


if __name__ == "__main__":
    unittest.main()
