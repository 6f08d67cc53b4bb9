"""Tests of [15], over weeks of our own making, and by plain trial of other buyings."""

import itertools
import unittest

import model
from larderlist.cooking import cooked
from larderlist.errors import Short
from larderlist.lacks import lacking
from larderlist.needs import needed, things_of
from larderlist.tables import serves
from larderlist.weeks import shopped, stocked, total, week


def bought_of(packs, counts, name):
    """The offers of the name, and how often each is bought."""
    of_name = [(pack[1:], count) for pack, count in zip(packs, counts) if pack[0] == name]
    return tuple(offer for offer, _ in of_name), tuple(count for _, count in of_name)


def all_serve(dishes, larder, packs, counts):
    """Whether, for each name, what lacks is served by what was bought of it."""
    return all(
        serves(*bought_of(packs, counts, name), lacking(dishes, larder, name))
        for name in things_of(dishes)
    )


def refused(dishes, larder):
    try:
        cooked(dishes, larder)
    except Short:
        return True
    return False


def week_or_none(dishes, larder, packs):
    try:
        return week(dishes, larder, packs)
    except Short:
        return None


class Holds(unittest.TestCase):
    def assert_each_dish_has_what_it_needs(self, dishes, store, uses):
        self.assertEqual(len(uses), len(dishes))
        for (day, needs), pairs in zip(dishes, uses):
            used, asked = {}, {}
            for name, amount in needs:
                asked[name] = asked.get(name, 0) + amount
            for batch, amount in pairs:
                name, _, last = store[batch]
                self.assertGreaterEqual(amount, 1)
                self.assertGreaterEqual(last, day)
                used[name] = used.get(name, 0) + amount
            self.assertEqual(used, asked)

    def assert_each_batch_is_what_becomes_of_it(self, store, uses, told):
        self.assertEqual(len(told), len(store))
        for at, (_, amount, last) in enumerate(store):
            used = sum(part for pairs in uses for batch, part in pairs if batch == at)
            self.assertLessEqual(used, amount)
            self.assertEqual(told[at][0], used)
            self.assertEqual(sum(told[at]), amount)
            self.assertGreaterEqual(min(told[at]), 0)
            self.assertEqual(told[at][2 if last < 7 else 1], 0)

    def assert_week(self, dishes, larder, packs):
        counts, store, uses, told = week(dishes, larder, packs)
        self.assertEqual(store, stocked(larder, packs, counts))
        self.assert_each_dish_has_what_it_needs(dishes, store, uses)
        self.assert_each_batch_is_what_becomes_of_it(store, uses, told)

    def test_what_is_used_spoilt_and_left_in_weeks_made(self):
        cooked_weeks = 0
        for dishes, larder, packs in model.weeks_made(600, packs=8):
            with self.subTest(dishes=dishes, larder=larder, packs=packs):
                if week_or_none(dishes, larder, packs) is not None:
                    cooked_weeks += 1
                    self.assert_week(dishes, larder, packs)
        self.assertGreater(cooked_weeks, 200)

    def test_what_is_used_spoilt_and_left_in_great_weeks(self):
        # A pack of each name that keeps beyond the week: none of these is short.
        for dishes, larder, packs in model.weeks_made(
            40, dishes=26, batches=120, packs=12, names=("a", "b", "c", "d", "e"), amount=9
        ):
            packs += tuple((name, 1, 1000000, 8) for name in "abcde")
            if all(sum(needed(dishes, name)) <= 200 for name in things_of(dishes)):
                with self.subTest(dishes=dishes, larder=larder, packs=packs):
                    self.assert_week(dishes, larder, packs)

    def test_cooked_is_not_refused_just_where_what_was_bought_serves(self):
        answers = {True: 0, False: 0}
        for dishes, larder, packs in model.weeks_made(300, packs=3):
            for counts in itertools.product(range(4), repeat=len(packs)):
                with self.subTest(dishes=dishes, larder=larder, packs=packs, counts=counts):
                    served = all_serve(dishes, larder, packs, counts)
                    answers[served] += 1
                    self.assertEqual(refused(dishes, stocked(larder, packs, counts)), not served)
        self.assertGreater(min(answers.values()), 1000)

    def test_no_buying_with_which_cooked_is_not_refused_costs_less(self):
        undercut = 0
        for dishes, larder, packs in model.weeks_made(300, packs=3):
            told = week_or_none(dishes, larder, packs)
            with self.subTest(dishes=dishes, larder=larder, packs=packs):
                totals = [
                    total(packs, counts)
                    for counts in itertools.product(range(4), repeat=len(packs))
                    if not refused(dishes, stocked(larder, packs, counts))
                ]
                if told is None:
                    self.assertEqual(totals, [])
                else:
                    self.assertFalse([price for price in totals if price < total(packs, told[0])])
                    undercut += len(set(totals)) > 1
        self.assertGreater(undercut, 50)

    def test_a_week_that_is_short_is_short_with_any_counts(self):
        short = 0
        for dishes, larder, packs in model.weeks_made(200, packs=3):
            if week_or_none(dishes, larder, packs) is None:
                short += 1
                store = stocked(larder, packs, (200,) * len(packs))
                with self.subTest(dishes=dishes, larder=larder, packs=packs):
                    self.assertTrue(refused(dishes, store))
        self.assertGreater(short, 20)

    def test_with_its_own_counts_cooked_is_not_refused(self):
        for dishes, larder, packs in model.weeks_made(300, packs=8):
            if week_or_none(dishes, larder, packs) is not None:
                counts = shopped(dishes, larder, packs)
                with self.subTest(dishes=dishes, larder=larder, packs=packs):
                    self.assertFalse(refused(dishes, stocked(larder, packs, counts)))
                    self.assertTrue(all_serve(dishes, larder, packs, counts))


if __name__ == "__main__":
    unittest.main()
