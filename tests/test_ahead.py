"""Promises 8 and 9: the decks that come to a deck, and how far back it goes."""

import unittest
from itertools import permutations

from slideback.ahead import decks_ahead, goes_back
from slideback.decks import deck_behind, deck_of, slid
from slideback.errors import NoDeck, NoNumber, TooMany
from tests.common import (
    HUGE, NO_DECKS, all_forms, as_lists, chance_decks, deck_with, gone_by_hand, is_told_deck, not_numbers, refusal,
    slid_by_hand, small_decks,
)

# So many decks come to these by 0 steps, by 1, by 2 ..
AT_MOST_A_THOUSAND = deck_with([0, 1, 6, 2, 4, 5, 6, 7, 9, 9])  # 997 by 29, 1,000 by 30
THOUSAND_THEN_MORE = deck_with([0, 1, 2, 8, 4, 5, 6, 7, 8, 9])  # 750 by 7, 1,000 by 8, 1,323 by 9
THOUSAND_AND_ONE = deck_with([0, 0, 2, 3, 4, 5, 6, 8, 9, 9, 3])  # 927 by 14, 1,001 by 15
OVER_AND_BELOW = deck_with([3, 13, 3, 3, 5, 4, 8, 7, 9, 9, 10, 11, 11])  # 840 by 13, 1,008 by 14, 690 by 15
ENDS_AT_21 = deck_with([3, 1, 1, 3, 4, 5, 5])
ENDS_AT_29 = deck_with([2, 1, 7, 3, 4, 4, 9, 7, 7, 0, 11, 10])
ENDS_AT_0 = (("a", 1), ("b", 0))
FOREVER = deck_with(range(5))


def orders_behind(deck, most):
    """For 0 steps, for 1 and so on, all orders of the deck's cards that come to it by so many."""
    behind = {order: order for order in permutations(deck)}
    told = []
    for _ in range(most + 1):
        told.append(sorted(order for order in behind if behind[order] == deck))
        behind = {order: slid_by_hand(behind[order]) for order in behind}
    return told


class DecksAhead(unittest.TestCase):
    def test_by_one_step(self):
        deck = (("a", 0), ("b", 3), ("d", 2), ("c", 5))
        self.assertEqual(
            decks_ahead(deck),
            [
                (("a", 0), ("b", 3), ("d", 2), ("c", 5)),
                (("c", 5), ("a", 0), ("b", 3), ("d", 2)),
                (("d", 2), ("a", 0), ("b", 3), ("c", 5)),
            ],
        )

    def test_one_card(self):
        for depth in (0, 1, HUGE):
            deck = (("a", depth),)
            self.assertEqual(decks_ahead(deck), [deck])
            self.assertEqual(decks_ahead(deck, steps=30), [deck])

    def test_none_where_there_are_none(self):
        self.assertEqual(decks_ahead(ENDS_AT_0), [])
        self.assertEqual(decks_ahead((("a", 2), ("b", 2), ("c", 0))), [])
        for steps in (1, 2, 30):
            self.assertEqual(decks_ahead(ENDS_AT_0, steps=steps), [])

    def test_they_are_sorted_as_tuples(self):
        deck = (("z", 0), ("m", 1), ("b", 2), ("y", 3), ("a", 9))
        tops = [told[0][0] for told in decks_ahead(deck)]
        self.assertEqual(tops, ["a", "b", "m", "y", "z"])
        for deck in chance_decks(60, 81, 12):
            for steps in (1, 2, 3):
                told = decks_ahead(deck, steps=steps)
                self.assertEqual(told, sorted(told))

    def test_all_of_them_for_small_decks(self):
        for cards, depths in ((1, 3), (2, 4), (3, 5), (4, 4)):
            for deck in small_decks(cards, depths):
                turned = deck[::-1]
                self.assertEqual(decks_ahead(deck), orders_behind(deck, 1)[1])
                self.assertEqual(decks_ahead(turned), orders_behind(turned, 1)[1])

    def test_each_one_comes_to_the_deck_by_a_step(self):
        for deck in chance_decks(200, 8):
            told = decks_ahead(deck)
            for one in told:
                self.assertEqual(slid_by_hand(one), deck)
                self.assertEqual(slid(one), deck)
            at_reach = [place for place, card in enumerate(deck) if min(card[1], len(deck) - 1) == place]
            self.assertEqual(len(set(told)), len(at_reach))
            self.assertEqual(len(told), len(at_reach))

    def test_forty_cards(self):
        deck = deck_with(range(40))
        told = decks_ahead(deck)
        self.assertEqual(len(told), 40)
        self.assertEqual(told[0], deck)
        self.assertEqual(told[39], deck[39:] + deck[:39])

    def test_depths_are_told_as_they_were(self):
        deck = (("a", HUGE), ("b", 3), ("c", HUGE))
        self.assertEqual(decks_ahead(deck), [(("c", HUGE), ("a", HUGE), ("b", 3))])


class ManySteps(unittest.TestCase):
    def test_the_deck_itself_by_no_step(self):
        for deck in chance_decks(30, 80) + [ENDS_AT_0, deck_with(range(40))]:
            self.assertEqual(decks_ahead(deck, steps=0), [deck])
            self.assertEqual(decks_ahead(as_lists(deck), steps=0), [deck])

    def test_one_step_where_none_is_told(self):
        for deck in chance_decks(30, 82):
            self.assertEqual(decks_ahead(deck), decks_ahead(deck, steps=1))

    def test_all_of_them_for_small_decks(self):
        for cards, depths in ((2, 3), (3, 4)):
            for deck in small_decks(cards, depths):
                for steps, orders in enumerate(orders_behind(deck, 30)):
                    self.assertEqual(decks_ahead(deck, steps=steps), orders)
        for deck in small_decks(4, 3) + [deck_with(range(5)), deck_with([1, 1, 4, 3, 4]), deck_with([4, 3, 2, 3, 4])]:
            for steps, orders in enumerate(orders_behind(deck, 12)):
                self.assertEqual(decks_ahead(deck, steps=steps), orders)

    def test_a_deck_that_ends(self):
        orders = orders_behind(ENDS_AT_21, 22)
        self.assertEqual(len(orders[21]), 1)
        for steps in (1, 2, 5, 8, 20, 21, 22):
            self.assertEqual(decks_ahead(ENDS_AT_21, steps=steps), orders[steps])
        self.assertEqual(decks_ahead(ENDS_AT_21, steps=30), [])

    def test_each_one_comes_to_the_deck(self):
        for deck in chance_decks(40, 83, 9):
            for steps in (2, 4, 5):
                told = decks_ahead(deck, steps=steps)
                self.assertEqual(len(set(told)), len(told))
                for one in told:
                    self.assertEqual(gone_by_hand(one, steps)[1], deck)
                    self.assertEqual(deck_behind(one, steps), deck)

    def test_numbers_that_are_none(self):
        for deck in (FOREVER, ENDS_AT_0, deck_with(range(40)), [["a", 1]]):
            for thing in not_numbers(30):
                self.assertIs(refusal(decks_ahead, deck, steps=thing), NoNumber, thing)
        self.assertIsNone(refusal(decks_ahead, FOREVER, steps=30))

    def test_just_a_thousand(self):
        told = decks_ahead(THOUSAND_THEN_MORE, steps=8)
        self.assertEqual(len(told), 1000)
        self.assertEqual(len(set(told)), 1000)
        self.assertEqual(told, sorted(told))
        for one in told:
            self.assertEqual(gone_by_hand(one, 8)[1], THOUSAND_THEN_MORE)
        self.assertEqual(len(decks_ahead(AT_MOST_A_THOUSAND, steps=29)), 997)
        self.assertEqual(len(decks_ahead(AT_MOST_A_THOUSAND, steps=30)), 1000)

    def test_more_than_a_thousand(self):
        self.assertEqual(len(decks_ahead(THOUSAND_AND_ONE, steps=14)), 927)
        for steps in (15, 16, 30):
            self.assertIs(refusal(decks_ahead, THOUSAND_AND_ONE, steps=steps), TooMany)
        for steps in (9, 10, 11):
            self.assertIs(refusal(decks_ahead, THOUSAND_THEN_MORE, steps=steps), TooMany)
        self.assertEqual(len(decks_ahead(deck_with(range(40)), steps=2)), 781)
        self.assertIs(refusal(decks_ahead, deck_with(range(40)), steps=3), TooMany)

    def test_more_than_a_thousand_on_the_way(self):
        self.assertEqual(len(decks_ahead(OVER_AND_BELOW, steps=13)), 840)
        for steps in (14, 15, 20, 30):
            self.assertIs(refusal(decks_ahead, OVER_AND_BELOW, steps=steps), TooMany)

    def test_the_order_of_the_refusals(self):
        self.assertIs(refusal(decks_ahead, [], steps=-1), NoDeck)
        self.assertIs(refusal(decks_ahead, deck_with(range(41)), steps=31), NoDeck)
        self.assertIs(refusal(decks_ahead, deck_with(range(40)), steps=31), NoNumber)


class GoesBack(unittest.TestCase):
    def test_some_number_of_steps_has_no_deck(self):
        for most in (1, 2, 30):
            self.assertEqual(goes_back(ENDS_AT_0, most), 0)
        for most in (21, 22, 23, 30):
            self.assertEqual(goes_back(ENDS_AT_21, most), 21)
        for most in (29, 30):
            self.assertEqual(goes_back(ENDS_AT_29, most), 29)

    def test_all_up_to_the_told_one_have_some(self):
        for most in range(31):
            self.assertEqual(goes_back(FOREVER, most), most)
            self.assertEqual(goes_back([["a", 3]], most), most)
            self.assertEqual(goes_back(ENDS_AT_21, most), min(most, 21))
            self.assertEqual(goes_back(ENDS_AT_29, most), min(most, 29))

    def test_of_0(self):
        for deck in chance_decks(30, 90) + [ENDS_AT_0, FOREVER]:
            self.assertEqual(goes_back(deck, 0), 0)

    def test_all_small_decks(self):
        for cards, depths in ((1, 3), (2, 4), (3, 4)):
            for deck in small_decks(cards, depths):
                with_some = [steps for steps, orders in enumerate(orders_behind(deck, 30)) if orders]
                for most in (0, 1, 2, 3, 5, 8, 29, 30):
                    self.assertEqual(goes_back(deck, most), max(steps for steps in with_some if steps <= most))

    def test_it_is_the_last_number_of_steps_that_has_some(self):
        for deck in chance_decks(150, 91, 8):
            back = goes_back(deck, 6)
            self.assertNotEqual(decks_ahead(deck, steps=back), [])
            if back < 6:
                self.assertEqual(decks_ahead(deck, steps=back + 1), [])

    def test_numbers_that_are_none(self):
        for deck in (FOREVER, ENDS_AT_0, deck_with(range(40)), [["a", 1]]):
            for thing in not_numbers(30):
                self.assertIs(refusal(goes_back, deck, thing), NoNumber, thing)

    def test_just_a_thousand(self):
        self.assertEqual(goes_back(THOUSAND_THEN_MORE, 8), 8)
        self.assertEqual(goes_back(AT_MOST_A_THOUSAND, 30), 30)

    def test_more_than_a_thousand(self):
        self.assertEqual(goes_back(THOUSAND_AND_ONE, 14), 14)
        self.assertEqual(goes_back(OVER_AND_BELOW, 13), 13)
        for most in (15, 16, 30):
            self.assertIs(refusal(goes_back, THOUSAND_AND_ONE, most), TooMany)
            self.assertIs(refusal(goes_back, OVER_AND_BELOW, most), TooMany)
        for most in (9, 10, 11):
            self.assertIs(refusal(goes_back, THOUSAND_THEN_MORE, most), TooMany)
        self.assertIs(refusal(goes_back, OVER_AND_BELOW, 14), TooMany)
        self.assertEqual(goes_back(deck_with(range(40)), 2), 2)
        self.assertIs(refusal(goes_back, deck_with(range(40)), 3), TooMany)

    def test_the_order_of_the_refusals(self):
        self.assertIs(refusal(goes_back, (), 31), NoDeck)
        self.assertIs(refusal(goes_back, deck_with(range(41)), True), NoDeck)
        self.assertIs(refusal(goes_back, deck_with(range(40)), 31), NoNumber)


class NoDeckGoesFirst(unittest.TestCase):
    """Promise 3: NoDeck goes ahead of all, with the number good or bad."""

    def test_things_that_are_no_deck(self):
        for thing in NO_DECKS:
            with self.subTest(thing=thing):
                self.assertIs(refusal(decks_ahead, thing), NoDeck)
                for number in (0, 1, 30, -1, 31, True, None):
                    self.assertIs(refusal(decks_ahead, thing, steps=number), NoDeck)
                    self.assertIs(refusal(goes_back, thing, number), NoDeck)


class ListsAndTuples(unittest.TestCase):
    """Promise 2: lists and tuples are taken alike, and tuples told in a list."""

    def test_each_form_is_told_the_same(self):
        deck = (("a", 0), ("d", 3), ("b", 2), ("c", 5))
        for form in all_forms(deck):
            with self.subTest(form=form):
                self.assertEqual(decks_ahead(form), decks_ahead(deck))
                self.assertEqual(decks_ahead(form, steps=0), [deck])
                self.assertEqual(decks_ahead(form, steps=4), decks_ahead(deck, steps=4))
                self.assertEqual(goes_back(form, 5), goes_back(deck, 5))

    def test_the_kinds_that_are_told(self):
        for steps in (0, 1, 2, 5):
            for form in all_forms(FOREVER):
                told = decks_ahead(form, steps=steps)
                self.assertIs(type(told), list)
                self.assertTrue(told)
                for one in told:
                    self.assertTrue(is_told_deck(one))
                    self.assertEqual(deck_of(one), one)
                self.assertIs(type(goes_back(form, steps)), int)


if __name__ == "__main__":
    unittest.main()
