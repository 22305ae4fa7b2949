"""Promises 12, 13 and 14: settled decks and their patterns, home orders, and lasting cards."""

import unittest
from itertools import permutations
from math import factorial
from random import Random

from slideback.errors import NoDeck, NotLasting, NotSettled, TooMany
from slideback.homes import are_lasting, home_orders, is_settled, orders_counted, patterns, ring_sizes
from slideback.levels import hand_at, ring_at
from tests.common import (
    HUGE, NO_DECKS, all_forms, as_lists, away_by_hand, chance_decks, closed_by_hand, deck_with, gone_by_hand,
    is_home_order, lively_decks, orders_by_hand, pattern_by_hand, refusal, rising_deck, settled_decks, small_decks,
)

# Its rings are of 1, 2, 3, 3 and 2 cards.
FIVE = (("e", 7), ("a", 2), ("d", 3), ("b", 3), ("c", 9))


class IsSettled(unittest.TestCase):
    def test_settled(self):
        for deck in (FIVE, (("a", 0),), (("a", 3),), deck_with([39] * 40), deck_with(range(40)), rising_deck(40)):
            self.assertIs(is_settled(deck), True)

    def test_settled_though_cards_beneath_the_closed_place_are_not_home(self):
        self.assertIs(is_settled((("a", 0), ("b", 0), ("c", 1))), True)
        self.assertIs(is_settled((("a", 1), ("b", 1), ("c", 0), ("d", 9), ("e", 3))), True)
        self.assertIs(is_settled(deck_with([0] * 40)), True)

    def test_not_settled(self):
        for deck in ((("a", 1), ("b", 0)), deck_with([39] * 39 + [38]), deck_with([39] + [0] * 39), FIVE[::-1]):
            self.assertIs(is_settled(deck), False)

    def test_many_decks(self):
        for deck in chance_decks(100, 120) + lively_decks(100, 121) + small_decks(4, 5) + small_decks(3, 4):
            self.assertIs(is_settled(deck), not away_by_hand(deck))

    def test_a_settled_deck_stays_settled(self):
        for deck in settled_decks()[:60]:
            for steps in (1, 2, 9, 50):
                self.assertIs(is_settled(gone_by_hand(deck, steps)[1]), True)

    def test_no_deck(self):
        for thing in NO_DECKS:
            self.assertIs(refusal(is_settled, thing), NoDeck, thing)


class Patterns(unittest.TestCase):
    def test_level_by_level(self):
        rows = [[None], [None, None], [None, "a", None], [None, "d", "b"], ["e", "c"]]
        self.assertEqual(patterns(FIVE), rows)
        self.assertEqual(patterns((("a", 1), ("b", 2), ("c", 2))), [[None], ["a", None], ["b", "c"]])

    def test_one_card(self):
        for depth in (0, 1, HUGE):
            self.assertEqual(patterns((("abc", depth),)), [["abc"]])

    def test_forty_cards(self):
        deck = rising_deck(40)
        rows = [[None]] + [[name, None] for name, _ in deck[:38]] + [[deck[38][0], deck[39][0]]]
        self.assertEqual(patterns(deck), rows)
        deck = deck_with([39] * 40)
        self.assertEqual(patterns(deck), [[None] * size for size in range(1, 40)] + [[name for name, _ in deck]])

    def test_an_early_closed_place(self):
        self.assertEqual(patterns((("a", 0), ("b", 1), ("c", 0))), [["a"]])
        self.assertEqual(patterns(deck_with([0] * 40)), [["aa"]])
        self.assertEqual(patterns((("a", 1), ("b", 1), ("c", 0), ("d", 9))), [[None], ["a", "b"]])
        self.assertEqual(patterns(deck_with([2, 2, 2] + [39] * 37)), [[None], [None, None], ["aa", "ab", "ac"]])

    def test_none_for_each_card_that_reaches_above_the_level(self):
        for deck in settled_decks():
            self.assertEqual(patterns(deck), [pattern_by_hand(deck, level) for level in range(closed_by_hand(deck))])

    def test_they_are_rings_but_for_the_holes(self):
        for deck in settled_decks():
            for level, row in enumerate(patterns(deck)):
                ring = ring_at(deck, level)
                self.assertEqual(len(row), len(ring))
                self.assertEqual([name for name, own in zip(ring, row) if own not in (None, name)], [])

    def test_the_holes_are_the_next_hand(self):
        for deck in settled_decks():
            rows = patterns(deck)
            for level in range(len(rows) - 1):
                ring = ring_at(deck, level)
                holes = [name for name, own in zip(ring, rows[level]) if own is None]
                self.assertEqual(holes, hand_at(deck, level + 1))

    def test_the_sizes_of_the_rings(self):
        for deck in settled_decks():
            rows = patterns(deck)
            self.assertEqual(len(rows[0]), 1)
            for row, beneath in zip(rows, rows[1:]):
                own = [name for name in row if name is not None]
                self.assertEqual(len(beneath), len(row) + 1 - len(own))
            self.assertNotIn(None, rows[-1])

    def test_lists_of_lists(self):
        for deck in settled_decks():
            rows = patterns(deck)
            self.assertIs(type(rows), list)
            self.assertEqual({type(row) for row in rows}, {list})

    def test_not_settled(self):
        for deck in chance_decks(100, 123) + lively_decks(60, 124) + small_decks(4, 4) + small_decks(2, 3):
            self.assertIs(refusal(patterns, deck), NotSettled if away_by_hand(deck) else None)
        self.assertIs(refusal(patterns, [["a", 1], ["b", 0]]), NotSettled)
        self.assertIs(refusal(patterns, deck_with([39] + [0] * 39)), NotSettled)

    def test_no_deck(self):
        for thing in NO_DECKS:
            self.assertIs(refusal(patterns, thing), NoDeck, thing)


class OrdersCounted(unittest.TestCase):
    def test_none(self):
        self.assertEqual(orders_counted((("a", 0), ("b", 0))), 0)
        self.assertEqual(orders_counted((("a", 1), ("b", 1), ("c", 1))), 0)
        self.assertEqual(orders_counted(deck_with([0] * 40)), 0)
        self.assertEqual(orders_counted(deck_with([39] * 38 + [0, 0])), 0)
        self.assertEqual(orders_counted(deck_with([37] * 39 + [HUGE])), 0)

    def test_one(self):
        self.assertEqual(orders_counted([["a", 0]]), 1)
        self.assertEqual(orders_counted([["a", HUGE]]), 1)
        self.assertEqual(orders_counted(deck_with(range(40))), 1)
        self.assertEqual(orders_counted(deck_with(range(39, -1, -1))), 1)

    def test_some(self):
        self.assertEqual(orders_counted((("a", 1), ("b", 2), ("c", 2))), 4)
        self.assertEqual(orders_counted((("c", 2), ("a", 1), ("b", 9))), 4)
        self.assertEqual(orders_counted((("a", 0), ("b", 3), ("c", 3), ("d", 3))), 6)

    def test_very_many(self):
        self.assertEqual(orders_counted(deck_with([39] * 40)), factorial(40))
        self.assertEqual(orders_counted(deck_with([HUGE] * 40)), factorial(40))
        self.assertEqual(orders_counted(rising_deck(40)), 2 ** 39)
        self.assertEqual(orders_counted(deck_with([20] * 20 + [39] * 20)), factorial(21) * factorial(20))

    def test_whatever_the_order_they_are_handed_in(self):
        chance = Random(13)
        for deck in lively_decks(40, 130):
            many = orders_counted(deck)
            self.assertEqual(orders_counted(chance.sample(deck, len(deck))), many)
            self.assertEqual(orders_counted(sorted(deck)), many)

    def test_all_small_ones(self):
        for cards, depths in ((1, 3), (2, 4), (3, 5), (4, 5), (5, 5)):
            for deck in small_decks(cards, depths):
                if list(deck) != sorted(deck, key=lambda card: card[1]):
                    continue
                self.assertEqual(orders_counted(deck), sum(map(is_home_order, permutations(deck))), deck)

    def test_no_deck(self):
        for thing in NO_DECKS:
            self.assertIs(refusal(orders_counted, thing), NoDeck, thing)


class HomeOrders(unittest.TestCase):
    def test_none(self):
        for depths in ([0, 0], [0] * 40, [39] * 38 + [0, 0], [37] * 39 + [39]):
            cards = deck_with(depths)
            told = home_orders(cards)
            self.assertEqual(told, [])
            self.assertIs(type(told), list)

    def test_one(self):
        self.assertEqual(home_orders([["a", 4]]), [(("a", 4),)])
        deck = deck_with(range(40))
        self.assertEqual(home_orders(deck), [deck])
        self.assertEqual(home_orders(deck[::-1]), [deck])

    def test_all_of_them_sorted(self):
        a, b, c = ("a", 2), ("b", 1), ("c", HUGE)
        self.assertEqual(home_orders((c, a, b)), [(a, b, c), (b, a, c), (b, c, a), (c, b, a)])
        self.assertEqual(home_orders([["b", 0], ["a", 1]]), [(("b", 0), ("a", 1))])

    def test_whatever_their_closed_place(self):
        told = home_orders((("a", 0), ("b", 2), ("c", 5)))
        self.assertEqual(told, [(("a", 0), ("b", 2), ("c", 5)), (("a", 0), ("c", 5), ("b", 2))])
        told = home_orders((("a", 1), ("b", 1), ("c", 3), ("d", 3)))
        self.assertEqual(["".join(name for name, _ in order) for order in told], ["abcd", "abdc", "bacd", "badc"])

    def test_all_small_ones(self):
        for cards, depths in ((1, 3), (2, 4), (3, 5), (4, 4)):
            for deck in small_decks(cards, depths):
                self.assertEqual(home_orders(deck), orders_by_hand(deck))

    def test_in_whatever_order_they_are_handed_in(self):
        chance = Random(131)
        for deck in lively_decks(30, 132, 5, 7):
            expected = orders_by_hand(deck)
            if len(expected) <= 1000:
                self.assertEqual(home_orders(chance.sample(deck, len(deck))), expected)

    def test_many_cards(self):
        deck = deck_with(list(range(36)) + [39] * 4)
        told = home_orders(deck[::-1])
        self.assertEqual(told, [deck[:36] + order for order in permutations(deck[36:])])
        deck = deck_with([1, 1] * 2 + list(range(4, 40)))
        self.assertEqual(home_orders(deck), [])
        pairs = deck_with([place + 1 - place % 2 for place in range(18)] + list(range(18, 40)))
        told = home_orders(pairs)
        self.assertEqual(len(told), 512)
        self.assertEqual(told, sorted(told))
        self.assertEqual(len(set(told)), 512)
        self.assertTrue(all(is_home_order(order) and sorted(order) == sorted(pairs) for order in told))

    def test_names_are_sorted_as_texts(self):
        told = home_orders((("b", 2), ("aa", 2), ("ab", 2)))
        names = [" ".join(name for name, _ in order) for order in told]
        self.assertEqual(names, ["aa ab b", "aa b ab", "ab aa b", "ab b aa", "b aa ab", "b ab aa"])

    def test_up_to_a_thousand_are_told(self):
        for depths, many in (([4, 4, 4, 4, 5, 6, 7, 7], 960), ([2, 3, 4, 5, 6, 6, 7, 7], 972)):
            deck = deck_with(depths)
            told = home_orders(deck)
            self.assertEqual(orders_counted(deck), many)
            self.assertEqual(len(told), many)
            self.assertEqual(told, orders_by_hand(deck))

    def test_more_than_a_thousand_are_not(self):
        for depths, many in ((list(range(1, 12)), 1024), ([4, 4, 4, 5, 6, 6, 6], 1080), ([6] * 7, 5040)):
            deck = deck_with(depths)
            self.assertEqual(orders_counted(deck), many)
            for cards in (deck, deck[::-1], as_lists(deck)):
                self.assertIs(refusal(home_orders, cards), TooMany)

    def test_far_more(self):
        # Few cards go first: a program that tells all their orders would go on for ever with many.
        for cards in (deck_with([HUGE] * 7), as_lists(deck_with([6] * 7)), rising_deck(40), deck_with([39] * 40)):
            self.assertIs(refusal(home_orders, cards), TooMany)

    def test_no_deck(self):
        for thing in NO_DECKS:
            self.assertIs(refusal(home_orders, thing), NoDeck, thing)
        self.assertIs(refusal(home_orders, deck_with([40] * 41)), NoDeck)


class AreLasting(unittest.TestCase):
    def test_without_a_home_order(self):
        for cards in (deck_with([0, 0]), deck_with([1, 1, 1]), deck_with([0] * 40), deck_with([37] * 39 + [HUGE])):
            self.assertIs(are_lasting(cards), False)

    def test_with_one_that_closes_ahead_of_its_end(self):
        for cards in (deck_with([0, 1]), deck_with([1, 1, 2]), deck_with(range(40)), deck_with([38] * 39 + [39])):
            self.assertIs(are_lasting(cards), False)
            self.assertIs(are_lasting(cards[::-1]), False)

    def test_with_such_that_close_at_their_end_alone(self):
        for cards in (deck_with([1, 1]), deck_with([1, 2, 2]), deck_with([39] * 40), rising_deck(40), FIVE):
            self.assertIs(are_lasting(cards), True)
            self.assertIs(are_lasting(cards[::-1]), True)

    def test_one_card(self):
        for depth in (0, 1, HUGE):
            self.assertIs(are_lasting([["a", depth]]), True)

    def test_the_order_of_the_cards_does_not_matter(self):
        # In this order they are not home and close early, as lasting as they are.
        cards = (("c", 1), ("a", 1), ("d", 3), ("b", 3))
        self.assertIs(are_lasting(cards), False)
        cards = (("c", 1), ("a", 3), ("d", 3), ("b", 3))
        self.assertIs(are_lasting(cards), True)
        self.assertIs(are_lasting((cards[1], cards[2], cards[3], cards[0])), True)

    def test_all_small_ones(self):
        for cards, depths in ((1, 3), (2, 4), (3, 5), (4, 5), (5, 5)):
            for deck in small_decks(cards, depths):
                if list(deck) != sorted(deck, key=lambda card: card[1]):
                    continue
                closed = {closed_by_hand(order) for order in orders_by_hand(deck)}
                self.assertIs(are_lasting(deck), cards in closed, deck)
                self.assertIs(are_lasting(deck), closed == {cards}, deck)

    def test_no_deck(self):
        for thing in NO_DECKS:
            self.assertIs(refusal(are_lasting, thing), NoDeck, thing)


class RingSizes(unittest.TestCase):
    def test_level_by_level(self):
        self.assertEqual(ring_sizes([["a", 0]]), [1])
        self.assertEqual(ring_sizes([["a", HUGE]]), [1])
        self.assertEqual(ring_sizes(FIVE), [1, 2, 3, 3, 2])
        self.assertEqual(ring_sizes(deck_with([39] * 40)), list(range(1, 41)))
        self.assertEqual(ring_sizes(rising_deck(40)), [1] + [2] * 39)
        self.assertEqual(ring_sizes(rising_deck(40)[::-1]), [1] + [2] * 39)

    def test_of_all_home_orders(self):
        for deck in small_decks(4, 5) + small_decks(3, 3) + small_decks(2, 2):
            if not are_lasting(deck):
                continue
            for order in orders_by_hand(deck):
                self.assertEqual(ring_sizes(deck), [len(row) for row in patterns(order)])
                self.assertEqual(ring_sizes(deck), [len(ring_at(order, level)) for level in range(len(deck))])

    def test_of_large_settled_decks(self):
        for deck in settled_decks():
            if closed_by_hand(deck) == len(deck):
                self.assertIs(are_lasting(deck), True)
                told = ring_sizes(sorted(deck))
                self.assertIs(type(told), list)
                self.assertEqual(told, [len(pattern_by_hand(deck, level)) for level in range(len(deck))])

    def test_not_lasting(self):
        for deck in small_decks(4, 5) + small_decks(3, 4) + small_decks(2, 3) + lively_decks(60, 140):
            self.assertIs(refusal(ring_sizes, deck), None if are_lasting(deck) else NotLasting)
        for cards in ([["a", 0], ["b", 0]], deck_with(range(40)), deck_with([0] * 40), deck_with([38] * 39 + [39])):
            self.assertIs(refusal(ring_sizes, cards), NotLasting)

    def test_no_deck(self):
        for thing in NO_DECKS:
            self.assertIs(refusal(ring_sizes, thing), NoDeck, thing)


class ListsAndTuples(unittest.TestCase):
    """Promise 2: lists and tuples are taken alike, down to the cards."""

    def test_each_form_is_told_the_same(self):
        for form in all_forms(FIVE):
            with self.subTest(form=form):
                self.assertIs(is_settled(form), True)
                self.assertEqual(patterns(form), patterns(FIVE))
                self.assertEqual(orders_counted(form), 36)
                self.assertEqual(home_orders(form), home_orders(FIVE))
                self.assertIs(are_lasting(form), True)
                self.assertEqual(ring_sizes(form), [1, 2, 3, 3, 2])


if __name__ == "__main__":
    unittest.main()
