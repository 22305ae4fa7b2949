"""Promises 5, 6 and 7: decks, their steps, and decks made otherwise; 4, as far as it tells of steps."""

import unittest

from slideback.decks import deck_behind, deck_of, deepened, drawn, laid, row_seen, slid
from slideback.errors import Full, Last, NoCard, NoDeck, NoDepth, NoName, NoNumber, NoPlace, Twice
from tests.common import (
    HUGE, NO_CARDS, NO_DECKS, NO_DEPTHS, NO_NAMES, all_forms, as_lists, chance_decks, deck_with, gone_by_hand,
    not_numbers, refusal, slid_by_hand, small_decks,
)

THREE = (("a", 1), ("b", 0), ("c", 9))


class DeckOf(unittest.TestCase):
    def test_the_deck_of_a_list_of_cards(self):
        self.assertEqual(deck_of([("b", 2), ["a", 0]]), (("b", 2), ("a", 0)))
        self.assertEqual(deck_of(THREE), THREE)

    def test_one_card_and_forty(self):
        self.assertEqual(deck_of([["a", 0]]), (("a", 0),))
        for depths in ([0] * 40, range(40), [HUGE] * 40):
            self.assertEqual(deck_of(list(deck_with(depths))), deck_with(depths))

    def test_none_and_forty_one(self):
        self.assertIs(refusal(deck_of, []), NoDeck)
        self.assertIs(refusal(deck_of, ()), NoDeck)
        self.assertIs(refusal(deck_of, deck_with([0] * 41)), NoDeck)
        self.assertIs(refusal(deck_of, list(deck_with([1] * 42))), NoDeck)

    def test_names_of_one_letter_and_of_eight(self):
        for name in ("a", "z", "abcdefgh", "zzzzzzzz", "azazaza", "mid", "in", "none"):
            with self.subTest(name):
                self.assertEqual(deck_of([(name, 1)]), ((name, 1),))
        every = tuple((chr(97 + number), number) for number in range(26))
        self.assertEqual(deck_of(every), every)

    def test_other_names(self):
        for name in NO_NAMES:
            with self.subTest(name=name):
                self.assertIs(refusal(deck_of, [(name, 0)]), NoDeck)
                self.assertIs(refusal(deck_of, [("b", 1), [name, 0], ("c", 1)]), NoDeck)

    def test_a_name_twice(self):
        self.assertIs(refusal(deck_of, [("a", 1), ("a", 1)]), NoDeck)
        self.assertIs(refusal(deck_of, [("a", 1), ("a", 2)]), NoDeck)
        self.assertIs(refusal(deck_of, [("a", 1), ("b", 2), ("c", 0), ["a", 0]]), NoDeck)
        self.assertIs(refusal(deck_of, deck_with(range(39)) + (("aa", 39),)), NoDeck)
        self.assertIsNone(refusal(deck_of, [("a", 1), ("aa", 1), ("aaa", 1)]))

    def test_depths(self):
        for depth in (0, 1, 2, 39, 40, 41, 1000, 10 ** 18, HUGE):
            with self.subTest(depth):
                self.assertEqual(deck_of([("a", depth), ("b", 0)]), (("a", depth), ("b", 0)))

    def test_other_depths(self):
        for depth in NO_DEPTHS:
            with self.subTest(depth=depth):
                self.assertIs(refusal(deck_of, [("a", depth)]), NoDeck)
                self.assertIs(refusal(deck_of, (("b", 0), ("a", depth))), NoDeck)

    def test_cards_of_too_few_things_or_too_many(self):
        for card in ((), [], ("a",), ["a"], ("a", 1, 1), ["a", 1, 1], ("a", 1, None), ("a", 1, "b", 1)):
            with self.subTest(card):
                self.assertIs(refusal(deck_of, [card]), NoDeck)
                self.assertIs(refusal(deck_of, [("b", 1), card]), NoDeck)

    def test_things_that_are_no_deck(self):
        for thing in NO_DECKS:
            with self.subTest(thing=thing):
                self.assertIs(refusal(deck_of, thing), NoDeck)


class Step(unittest.TestCase):
    def test_reach_0_stays(self):
        self.assertEqual(slid((("a", 0), ("b", 2), ("c", 1))), (("a", 0), ("b", 2), ("c", 1)))
        self.assertEqual(slid([["a", 0]]), (("a", 0),))

    def test_a_reach_in_the_middle(self):
        four = (("b", 0), ("c", 0), ("d", 0))
        self.assertEqual(slid((("a", 1),) + four), (("b", 0), ("a", 1), ("c", 0), ("d", 0)))
        self.assertEqual(slid((("a", 2),) + four), (("b", 0), ("c", 0), ("a", 2), ("d", 0)))

    def test_depths_at_the_number_of_cards_less_one_and_above(self):
        for depth in (2, 3, 4, 40, HUGE):
            with self.subTest(depth):
                self.assertEqual(slid((("a", depth), ("b", 0), ("c", 5))), (("b", 0), ("c", 5), ("a", depth)))
        for depth in (0, 1, 2, HUGE):
            self.assertEqual(slid([("a", depth)]), (("a", depth),))

    def test_all_small_decks(self):
        for cards in (1, 2, 3, 4):
            for deck in small_decks(cards, 6):
                self.assertEqual(slid(deck), slid_by_hand(deck))

    def test_large_decks(self):
        for deck in chance_decks(300, 6):
            self.assertEqual(slid(deck), slid_by_hand(deck))
        for depth in range(45):
            deck = deck_with([depth] + [0] * 39)
            self.assertEqual(slid(deck), slid_by_hand(deck))


class ManySteps(unittest.TestCase):
    def test_what_is_seen(self):
        self.assertEqual(row_seen(THREE, 5), ["a", "b", "b", "b", "b"])
        self.assertEqual(row_seen([["a", 1], ["b", 2], ["c", 2]], 7), ["a", "b", "a", "c", "a", "b", "a"])

    def test_the_deck_behind(self):
        self.assertEqual(deck_behind(THREE, 1), (("b", 0), ("a", 1), ("c", 9)))
        self.assertEqual(deck_behind([["a", 1], ["b", 2], ["c", 2]], 2), (("a", 1), ("c", 2), ("b", 2)))

    def test_no_step(self):
        for deck in chance_decks(20, 60):
            self.assertEqual(row_seen(deck, 0), [])
            self.assertEqual(deck_behind(deck, 0), deck)
        self.assertEqual(deck_behind([["a", 1], ["b", 2]], 0), (("a", 1), ("b", 2)))

    def test_all_small_decks(self):
        for cards, depths in ((1, 3), (2, 4), (3, 5), (4, 4)):
            for deck in small_decks(cards, depths):
                for steps in (1, 2, 3, 9):
                    names, behind = gone_by_hand(deck, steps)
                    self.assertEqual(row_seen(deck, steps), names)
                    self.assertEqual(deck_behind(deck, steps), behind)

    def test_two_thousand_steps(self):
        for deck in chance_decks(12, 61) + [deck_with(range(40)), deck_with([39] * 40), deck_with([HUGE] * 7)]:
            for steps in (1999, 2000):
                names, behind = gone_by_hand(deck, steps)
                self.assertEqual(row_seen(deck, steps), names)
                self.assertEqual(deck_behind(deck, steps), behind)

    def test_numbers_that_are_none(self):
        for deck in (THREE, [["a", 0]]):
            for thing in not_numbers(2000):
                self.assertIs(refusal(row_seen, deck, thing), NoNumber, thing)
                self.assertIs(refusal(deck_behind, deck, thing), NoNumber, thing)


class CardByCard(unittest.TestCase):
    """Promise 4: many steps are what sliding card by card comes to."""

    def test_many_steps_are_one_behind_the_other(self):
        for deck in chance_decks(25, 4) + small_decks(3, 4):
            now = deck
            names = []
            for steps in range(60):
                self.assertEqual(row_seen(deck, steps), names)
                self.assertEqual(deck_behind(deck, steps), now)
                names.append(now[0][0])
                now = slid(now)

    def test_steps_behind_steps(self):
        for deck in chance_decks(25, 41):
            for first, then in ((0, 7), (1, 1), (13, 29), (300, 700)):
                behind = deck_behind(deck, first)
                self.assertEqual(deck_behind(deck, first + then), deck_behind(behind, then))
                self.assertEqual(row_seen(deck, first + then), row_seen(deck, first) + row_seen(behind, then))


class Laid(unittest.TestCase):
    def test_at_each_bound_and_in_the_middle(self):
        new = ("n", 7)
        self.assertEqual(laid(THREE, new, 0), (new,) + THREE)
        self.assertEqual(laid(THREE, new, 1), (("a", 1), new, ("b", 0), ("c", 9)))
        self.assertEqual(laid(THREE, new, 2), (("a", 1), ("b", 0), new, ("c", 9)))
        self.assertEqual(laid(THREE, new, 3), THREE + (new,))
        self.assertEqual(laid([["a", 1]], ["b", HUGE], 1), (("a", 1), ("b", HUGE)))
        self.assertEqual(laid([["a", 1]], ["abcdefgh", 0], 0), (("abcdefgh", 0), ("a", 1)))

    def test_the_fortieth_card(self):
        deck = deck_with(range(39))
        self.assertEqual(laid(deck, ("z", 0), 0), (("z", 0),) + deck)
        self.assertEqual(laid(deck, ("z", 0), 39), deck + (("z", 0),))
        self.assertEqual(laid(deck, ("z", 0), 20), deck[:20] + (("z", 0),) + deck[20:])

    def test_no_card(self):
        for card in NO_CARDS:
            with self.subTest(card=card):
                self.assertIs(refusal(laid, (("x", 1), ("y", 0)), card, 1), NoCard)

    def test_a_name_that_is_there(self):
        for name in "abc":
            for depth in (0, 1, 9, HUGE):
                self.assertIs(refusal(laid, THREE, (name, depth), 0), Twice)
                self.assertIs(refusal(laid, list(THREE), [name, depth], 3), Twice)
        self.assertIsNone(refusal(laid, THREE, ("aa", 1), 0))

    def test_no_place(self):
        for deck in (THREE, (("a", 0),), deck_with([1] * 39), deck_with([1] * 40)):
            for place in not_numbers(len(deck)):
                with self.subTest(place=place):
                    self.assertIs(refusal(laid, deck, ("z", 1), place), NoPlace)

    def test_full(self):
        for deck in (deck_with([1] * 40), list(deck_with(range(40)))):
            for place in (0, 1, 20, 39, 40):
                self.assertIs(refusal(laid, deck, ("z", 1), place), Full)

    def test_the_order_of_the_refusals(self):
        full = deck_with([1] * 40)
        self.assertIs(refusal(laid, full + (("z", 1),), ("Z", 1), -1), NoDeck)
        self.assertIs(refusal(laid, [], ("a", 1), 5), NoDeck)
        self.assertIs(refusal(laid, (("a", 1), ("a", 1)), ("a", 1), 5), NoDeck)
        self.assertIs(refusal(laid, full, ("aa", -1), 41), NoCard)
        self.assertIs(refusal(laid, full, ("Z", 1), 0), NoCard)
        self.assertIs(refusal(laid, THREE, ("a", True), 0), NoCard)
        self.assertIs(refusal(laid, THREE, ("a",), 9), NoCard)
        self.assertIs(refusal(laid, full, ("aa", 1), 41), Twice)
        self.assertIs(refusal(laid, full, ("aa", 1), 0), Twice)
        self.assertIs(refusal(laid, THREE, ("a", 1), True), Twice)
        self.assertIs(refusal(laid, full, ("z", 1), 41), NoPlace)
        self.assertIs(refusal(laid, full, ("z", 1), -1), NoPlace)
        self.assertIs(refusal(laid, full, ("z", 1), 40), Full)


class Drawn(unittest.TestCase):
    def test_without_a_card(self):
        self.assertEqual(drawn(THREE, "a"), (("b", 0), ("c", 9)))
        self.assertEqual(drawn(THREE, "b"), (("a", 1), ("c", 9)))
        self.assertEqual(drawn(THREE, "c"), (("a", 1), ("b", 0)))
        self.assertEqual(drawn([["a", 1], ["b", 2]], "a"), (("b", 2),))
        deck = deck_with(range(40))
        self.assertEqual(drawn(deck, "bn"), deck[:-1])

    def test_no_name(self):
        for name in NO_NAMES + ["d", "aa", "ab", "abc", "cb"]:
            with self.subTest(name=name):
                self.assertIs(refusal(drawn, THREE, name), NoName)

    def test_the_last_card(self):
        self.assertIs(refusal(drawn, [("a", 0)], "a"), Last)
        self.assertIs(refusal(drawn, (["abcdefgh", 3],), "abcdefgh"), Last)

    def test_the_order_of_the_refusals(self):
        self.assertIs(refusal(drawn, [], "a"), NoDeck)
        self.assertIs(refusal(drawn, [("a", -1)], "a"), NoDeck)
        self.assertIs(refusal(drawn, [("a", -1)], "b"), NoDeck)
        self.assertIs(refusal(drawn, [("a", 1)], "b"), NoName)
        self.assertIs(refusal(drawn, [("a", 1)], None), NoName)


class Deepened(unittest.TestCase):
    def test_another_depth(self):
        self.assertEqual(deepened(THREE, "a", 5), (("a", 5), ("b", 0), ("c", 9)))
        self.assertEqual(deepened(THREE, "b", HUGE), (("a", 1), ("b", HUGE), ("c", 9)))
        self.assertEqual(deepened(as_lists(THREE), "c", 0), (("a", 1), ("b", 0), ("c", 0)))
        self.assertEqual(deepened([("a", 3)], "a", 4), (("a", 4),))

    def test_the_same_depth(self):
        self.assertEqual(deepened(THREE, "c", 9), THREE)

    def test_no_name(self):
        for name in NO_NAMES + ["d", "aa", "ab", "abc"]:
            with self.subTest(name=name):
                self.assertIs(refusal(deepened, THREE, name, 1), NoName)

    def test_no_depth(self):
        for depth in NO_DEPTHS:
            with self.subTest(depth=depth):
                self.assertIs(refusal(deepened, THREE, "b", depth), NoDepth)

    def test_the_order_of_the_refusals(self):
        self.assertIs(refusal(deepened, [("a", 1), ("a", 2)], "b", -1), NoDeck)
        self.assertIs(refusal(deepened, "ab", "a", 1), NoDeck)
        self.assertIs(refusal(deepened, THREE, "d", -1), NoName)
        self.assertIs(refusal(deepened, THREE, 5, True), NoName)


class NoDeckGoesFirst(unittest.TestCase):
    """Promise 3: NoDeck goes ahead of all, with each other argument good or bad."""

    def test_things_that_are_no_deck(self):
        for thing in NO_DECKS:
            with self.subTest(thing=thing):
                self.assertIs(refusal(slid, thing), NoDeck)
                for number in (0, 1, -1, True, None):
                    self.assertIs(refusal(row_seen, thing, number), NoDeck)
                    self.assertIs(refusal(deck_behind, thing, number), NoDeck)
                    self.assertIs(refusal(laid, thing, ("n", 1), number), NoDeck)
                    self.assertIs(refusal(laid, thing, None, number), NoDeck)
                    self.assertIs(refusal(laid, thing, ("a", 1), number), NoDeck)
                    self.assertIs(refusal(deepened, thing, "a", number), NoDeck)
                    self.assertIs(refusal(deepened, thing, "q", number), NoDeck)
                for name in ("a", "x", "q", None):
                    self.assertIs(refusal(drawn, thing, name), NoDeck)


class ListsAndTuples(unittest.TestCase):
    """Promise 2: lists and tuples are taken alike, down to the cards."""

    def test_each_form_is_told_the_same(self):
        deck = (("a", 2), ("b", 0), ("c", 9), ("d", 1))
        for form in all_forms(deck):
            with self.subTest(form=form):
                self.assertEqual(deck_of(form), deck)
                self.assertEqual(slid(form), slid(deck))
                self.assertEqual(row_seen(form, 5), row_seen(deck, 5))
                self.assertEqual(deck_behind(form, 0), deck)
                self.assertEqual(deck_behind(form, 5), deck_behind(deck, 5))
                self.assertEqual(laid(form, ["n", 3], 2), laid(deck, ("n", 3), 2))
                self.assertEqual(laid(form, ("n", 3), 2), (("a", 2), ("b", 0), ("n", 3), ("c", 9), ("d", 1)))
                self.assertEqual(drawn(form, "b"), (("a", 2), ("c", 9), ("d", 1)))
                self.assertEqual(deepened(form, "d", 7), (("a", 2), ("b", 0), ("c", 9), ("d", 7)))


if __name__ == "__main__":
    unittest.main()
