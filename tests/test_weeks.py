"""Tests of [11] to [14], and of what [1] and [2] say of them."""

import copy
import unittest

from larderlist import weeks
from larderlist.cooking import cooked, ends
from larderlist.errors import LarderError, Short, TooMuch
from larderlist.lacks import lacking
from larderlist.tables import bought
from larderlist.weeks import listed, shopped, stocked, total, week

DISHES = (
    (5, (("milk", 7), ("egg", 4))),
    (2, (("egg", 3), ("egg", 2))),
    (7, (("flour", 200),)),
)

LARDER = (("egg", 2, 3), ("milk", 50, 4), ("egg", 1, 9), ("flour", 150, 99), ("salt", 10, 1))

PACKS = (
    ("milk", 5, 60, 6),
    ("egg", 6, 200, 12),
    ("salt", 100, 0, 99),
    ("egg", 2, 50, 3),
    ("flour", 50, 90, 99),
    ("milk", 10, 110, 5),
    ("flour", 50, 90, 99),
)

COUNTS = (0, 1, 0, 0, 1, 1, 0)


def one_need(day, name, amount):
    return (day, ((name, amount),))


def full_week():
    """26 dishes, 120 batches and 17 packs: as many as week is promised for."""
    names = tuple("abcdefghijklm")
    dishes = tuple(
        (k % 7 + 1, tuple((names[(k + j) % 13], 1 + (k + 3 * j) % 4) for j in range(20)))
        for k in range(26)
    )
    larder = tuple((names[k % 13], 1 + k % 9, k % 10 + 1) for k in range(120))
    packs = tuple((names[k % 13], 7 + 2 * k, 50 + 13 * k, 7 + k) for k in range(17))
    return dishes, larder, packs


class Weeks(unittest.TestCase):
    def assert_refused(self, refusal, name, dishes, larder, packs):
        """[11] and [13]: week is refused just as shopped is."""
        for told in (shopped, week):
            with self.subTest(told=told.__name__):
                with self.assertRaises(LarderError) as caught:
                    told(dishes, larder, packs)
                self.assertIs(type(caught.exception), refusal)
                self.assertEqual(caught.exception.word, name)


class Shopped(Weeks):
    def test_what_is_bought_of_each_name(self):
        self.assertEqual(shopped(DISHES, LARDER, PACKS), COUNTS)

    def test_each_name_by_what_lacks_of_it(self):
        counts = shopped(DISHES, (), PACKS)
        self.assertEqual(counts, (0, 1, 0, 2, 4, 1, 0))
        for name in ("egg", "flour", "milk"):
            places = [at for at, pack in enumerate(PACKS) if pack[0] == name]
            offers = tuple(PACKS[at][1:] for at in places)
            told = bought(offers, lacking(DISHES, (), name))
            self.assertEqual(tuple(counts[at] for at in places), told)

    def test_no_dishes(self):
        self.assertEqual(shopped((), LARDER, PACKS), (0,) * 7)
        self.assertEqual(shopped((), (), ()), ())
        self.assertEqual(shopped(((3, ()),), (), PACKS), (0,) * 7)

    def test_no_packs(self):
        self.assertEqual(shopped((one_need(1, "egg", 3),), LARDER, ()), ())
        self.assert_refused(Short, "egg", (one_need(1, "egg", 4),), LARDER, ())

    def test_packs_of_other_names(self):
        packs = (("eggs", 1, 0, 9), ("eg", 1, 0, 9), ("egg", 1, 5, 9), ("ega", 1, 0, 9))
        self.assertEqual(shopped((one_need(1, "egg", 2),), (), packs), (0, 0, 2, 0))
        self.assert_refused(Short, "egg", (one_need(1, "egg", 2),), (), packs[:2] + packs[3:])
        # A price of 0 is no reason to buy what lacks nothing.
        self.assertEqual(shopped((one_need(1, "egg", 3),), LARDER, packs), (0, 0, 0, 0))

    def test_the_packs_of_a_name_in_their_order(self):
        packs = (("b", 1, 5, 9), ("a", 2, 7, 9), ("b", 1, 5, 9), ("a", 2, 7, 9), ("a", 9, 20, 9))
        dishes = (one_need(2, "b", 2), one_need(1, "a", 4))
        self.assertEqual(shopped(dishes, (), packs), (2, 2, 0, 0, 0))
        self.assertEqual(shopped(dishes, (), packs[::-1]), (0, 2, 2, 0, 0))

    def test_200_and_201_of_a_name_on_all_days_together(self):
        packs = (("egg", 1, 1, 99), ("ham", 1, 1, 99))
        just = tuple(one_need(day, "egg", 25) for day in range(1, 8)) + (one_need(4, "egg", 25),)
        self.assertEqual(shopped(just, (), packs), (200, 0))
        self.assertEqual(shopped(just + (one_need(1, "ham", 200),), (), packs), (200, 200))
        self.assert_refused(TooMuch, "egg", just + (one_need(7, "egg", 1),), (), packs)
        twice = ((3, (("egg", 200), ("ham", 5), ("egg", 1))),)
        self.assert_refused(TooMuch, "egg", twice, (), packs)

    def test_too_much_is_what_is_needed_and_not_what_lacks(self):
        larder = (("egg", 200, 99), ("egg", 200, 99))
        self.assertEqual(shopped((one_need(1, "egg", 200),), larder, ()), ())
        over = (one_need(1, "egg", 200), one_need(7, "egg", 1))
        self.assert_refused(TooMuch, "egg", over, larder, (("egg", 200, 0, 99),))

    def test_too_much_is_looked_at_ahead_of_short(self):
        over = (one_need(1, "egg", 200), one_need(7, "egg", 1))
        self.assert_refused(TooMuch, "egg", over, (), ())
        self.assert_refused(Short, "egg", over[:1], (), ())

    def test_the_first_name_by_the_alphabet(self):
        over = (("m", 200), ("m", 1))
        # Short of the name ahead of m by the alphabet, though m is TooMuch.
        self.assert_refused(Short, "b", ((1, over + (("z", 1), ("b", 1))),), (), ())
        self.assert_refused(TooMuch, "m", ((1, (("z", 1),) + over),), (), ())
        self.assert_refused(TooMuch, "m", ((1, over + (("n", 200), ("n", 1))),), (), ())
        # Neither the day nor the order nor the larder nor the packs make it another one.
        dishes = (one_need(1, "z", 1), one_need(2, "y", 1), one_need(7, "x", 1), one_need(3, "a", 1))
        self.assert_refused(Short, "x", dishes, (("z", 1, 9), ("a", 1, 9)), (("y", 1, 1, 1),))

    def test_short_where_no_buying_serves(self):
        for last in range(1, 9):
            for day in range(1, 8):
                with self.subTest(last=last, day=day):
                    dishes, packs = (one_need(day, "egg", 5),), (("egg", 3, 7, last),)
                    if day <= last:
                        self.assertEqual(shopped(dishes, (("egg", 1, 9),), packs), (2,))
                    else:
                        self.assert_refused(Short, "egg", dishes, (("egg", 1, 9),), packs)

    def test_what_spoils_ahead_of_its_need_is_bought_anew(self):
        dishes, packs = (one_need(2, "egg", 1), one_need(5, "egg", 1)), (("egg", 1, 5, 9),)
        self.assertEqual(shopped(dishes, (("egg", 9, 4),), packs), (1,))
        self.assertEqual(shopped(dishes, (("egg", 9, 5),), packs), (0,))

    def test_it_is_a_tuple_of_whole_numbers(self):
        for dishes, larder, packs in (((), (), ()), (DISHES, LARDER, PACKS), full_week()):
            counts = shopped(dishes, larder, packs)
            self.assertIs(type(counts), tuple)
            self.assertEqual(len(counts), len(packs))
            for count in counts:
                self.assertIs(type(count), int)


class Stocked(Weeks):
    def test_a_batch_behind_for_each_pack_that_is_bought(self):
        told = stocked(LARDER, PACKS, COUNTS)
        self.assertEqual(told, LARDER + (("egg", 6, 12), ("flour", 50, 99), ("milk", 10, 5)))

    def test_counts_of_more_than_one(self):
        told = stocked(LARDER[:1], PACKS, (0, 2, 0, 3, 0, 0, 1))
        batches = (("egg", 6, 12),) * 2 + (("egg", 2, 3),) * 3 + (("flour", 50, 99),)
        self.assertEqual(told, LARDER[:1] + batches)

    def test_an_empty_larder(self):
        self.assertEqual(stocked((), PACKS[:1], (2,)), (("milk", 5, 6), ("milk", 5, 6)))
        self.assertEqual(stocked((), (), ()), ())
        self.assertEqual(stocked((), PACKS, (0,) * 7), ())

    def test_no_packs(self):
        self.assertEqual(stocked(LARDER, (), ()), LARDER)

    def test_counts_of_0(self):
        self.assertEqual(stocked(LARDER, PACKS, (0,) * 7), LARDER)

    def test_alike_packs_stand_in_their_order(self):
        packs = (("a", 1, 5, 9), ("b", 2, 5, 9), ("a", 1, 5, 9))
        self.assertEqual(stocked((), packs, (1, 1, 2)), (("a", 1, 9), ("b", 2, 9), ("a", 1, 9), ("a", 1, 9)))

    def test_the_larder_is_made_anew(self):
        self.assertIsNot(stocked(LARDER, PACKS, (0,) * 7), LARDER)
        self.assertIsNot(stocked(LARDER, (), ()), LARDER)

    def test_it_is_a_tuple_of_batches(self):
        told = stocked(LARDER, PACKS, COUNTS)
        self.assertIs(type(told), tuple)
        for batch in told:
            self.assertIs(type(batch), tuple)
            self.assertEqual([type(part) for part in batch], [str, int, int])


class Total(Weeks):
    def test_the_price_of_all(self):
        self.assertEqual(total(PACKS, COUNTS), 200 + 90 + 110)
        self.assertEqual(total(PACKS, (1, 2, 3, 4, 5, 6, 7)), 60 + 400 + 0 + 200 + 450 + 660 + 630)

    def test_no_packs(self):
        self.assertEqual(total((), ()), 0)

    def test_counts_of_0(self):
        self.assertEqual(total(PACKS, (0,) * 7), 0)

    def test_prices_from_0_to_1000000(self):
        self.assertEqual(total((("a", 1, 0, 9), ("b", 1, 1000000, 9)), (200, 200)), 200000000)

    def test_it_is_a_whole_number(self):
        self.assertIs(type(total((), ())), int)
        self.assertIs(type(total(PACKS, COUNTS)), int)


class Week(Weeks):
    def test_the_four_of_a_week(self):
        counts, store, uses, told = week(DISHES, LARDER, PACKS)
        self.assertEqual(counts, COUNTS)
        self.assertEqual(store, LARDER + (("egg", 6, 12), ("flour", 50, 99), ("milk", 10, 5)))
        self.assertEqual(uses, (((7, 7), (5, 4)), ((0, 2), (2, 1), (5, 2)), ((3, 150), (6, 50))))
        old = ((2, 0, 0), (0, 50, 0), (1, 0, 0), (150, 0, 0), (0, 10, 0))
        self.assertEqual(told, old + ((6, 0, 0), (50, 0, 0), (7, 3, 0)))

    def test_each_of_the_four_is_what_its_function_gives(self):
        for dishes, larder, packs in (((), (), ()), (DISHES, LARDER, PACKS), full_week()):
            told = week(dishes, larder, packs)
            counts = shopped(dishes, larder, packs)
            store = stocked(larder, packs, counts)
            uses = cooked(dishes, store)
            self.assertEqual(told, (counts, store, uses, ends(store, uses)))
            self.assertIs(type(told), tuple)

    def test_nothing_at_all(self):
        self.assertEqual(week((), (), ()), ((), (), (), ()))

    def test_no_dishes(self):
        told = week((), LARDER, PACKS)
        left = ((0, 2, 0), (0, 50, 0), (0, 0, 1), (0, 0, 150), (0, 10, 0))
        self.assertEqual(told, ((0,) * 7, LARDER, (), left))

    def test_nothing_lacks(self):
        dishes = (one_need(3, "egg", 3),)
        told = week(dishes, LARDER, PACKS)
        left = ((2, 0, 0), (0, 50, 0), (1, 0, 0), (0, 0, 150), (0, 10, 0))
        self.assertEqual(told, ((0,) * 7, LARDER, (((0, 2), (2, 1)),), left))

    def test_it_is_refused_as_shopped_is_and_not_as_cooked_is(self):
        # In the order of cooking z is the first one that is short, by the alphabet b.
        dishes = (one_need(5, "b", 1), one_need(1, "z", 1))
        self.assert_refused(Short, "b", dishes, (), ())
        with self.assertRaises(Short) as caught:
            cooked(dishes, ())
        self.assertEqual(caught.exception.word, "z")
        # Cooked would not be refused at all.
        larder = (("egg", 200, 9), ("egg", 200, 9))
        self.assert_refused(TooMuch, "egg", ((1, (("egg", 200), ("egg", 1))),), larder, ())


class Listed(Weeks):
    def test_a_row_for_each_pack_that_is_bought_and_one_for_the_price_of_all(self):
        text = "1 egg 6 200\n1 flour 50 90\n1 milk 10 110\ntotal 400"
        self.assertEqual(listed(PACKS, COUNTS), text)

    def test_the_price_of_a_row_is_that_of_all_of_them_together(self):
        text = "3 milk 5 180\n20 salt 100 0\n2 flour 50 180\ntotal 360"
        self.assertEqual(listed(PACKS, (3, 0, 20, 0, 0, 0, 2)), text)

    def test_no_pack_bought_at_all(self):
        self.assertEqual(listed(PACKS, (0,) * 7), "total 0")
        self.assertEqual(listed((), ()), "total 0")

    def test_alike_packs_have_a_row_each(self):
        packs = (("a", 1, 5, 9), ("b", 2, 6, 9), ("a", 1, 5, 9))
        self.assertEqual(listed(packs, (1, 1, 2)), "1 a 1 5\n1 b 2 6\n2 a 1 10\ntotal 21")

    def test_great_numbers_are_written_in_full(self):
        packs = (("aaaaaaaa", 200, 1000000, 99),)
        self.assertEqual(listed(packs, (1200,)), "1200 aaaaaaaa 200 1200000000\ntotal 1200000000")

    def test_line_ends_and_blanks(self):
        for counts in ((0,) * 7, COUNTS, (1,) * 7):
            text = listed(PACKS, counts)
            self.assertIs(type(text), str)
            self.assertFalse(text.endswith("\n"))
            rows = text.split("\n")
            self.assertEqual(len(rows), sum(count > 0 for count in counts) + 1)
            for row in rows:
                self.assertEqual(row, " ".join(row.split()))


class AsItWas(unittest.TestCase):
    def test_each_function_is_defined_in_its_file(self):
        for told in (shopped, stocked, total, week, listed):
            self.assertEqual(told.__module__, weeks.__name__)

    def test_what_is_handed_in_stands_as_it_was(self):
        dishes, larder, packs = full_week()
        before = copy.deepcopy((dishes, larder, packs))
        counts = week(dishes, larder, packs)[0]
        kept = copy.deepcopy(counts)
        stocked(larder, packs, counts)
        total(packs, counts)
        listed(packs, counts)
        self.assertEqual((dishes, larder, packs), before)
        self.assertEqual(counts, kept)

    def test_asked_again_it_answers_the_same(self):
        first = week(DISHES, LARDER, PACKS)
        self.assertRaises(Short, week, DISHES + (one_need(1, "rye", 1),), LARDER, PACKS)
        self.assertEqual(week(DISHES, LARDER, PACKS), first)
        self.assertEqual(listed(PACKS, COUNTS), listed(PACKS, COUNTS))

    def test_somewhat_beyond_the_limits_nothing_is_refused(self):
        dishes = tuple((k % 9, (("aubergines", 1),) * 2) for k in range(27))
        larder = (("aubergines", 0, 0), ("aubergines", 1, 100)) * 60 + (("aubergines", 0, 9),)
        packs = (("aubergines", 0, 0, 0), ("aubergines", 201, 1000001, 100)) * 9
        self.assertEqual(shopped(dishes, larder, packs), (0,) * 18)
        self.assertEqual(shopped(dishes, (), packs), (0, 1) + (0,) * 16)
        self.assertEqual(total(packs, (0, 1) * 9), 9 * 1000001)
        self.assertEqual(len(week(dishes, larder, packs)), 4)


if __name__ == "__main__":
    unittest.main()
