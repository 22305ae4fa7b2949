"""Promises 10 and 11: places, homes, closed places, cards away, and the hands and rings of levels."""

import unittest

from slideback.errors import NoDeck, NoLevel, NoName
from slideback.levels import away, closed_place, hand_at, is_home, place_of, ring_at
from tests.common import (
    HUGE, NO_DECKS, NO_NAMES, all_forms, away_by_hand, chance_decks, closed_by_hand, deck_with, gone_by_hand,
    lively_decks, not_numbers, reaches_by_hand, refusal, slid_by_hand, small_decks,
)

# Closed at 3, where c is away; beneath it d is not home, and e is.
FIVE = (("a", 1), ("b", 2), ("c", 1), ("d", 2), ("e", 9))


def some_decks():
    """Decks of all sizes, settled or not, closed early or late."""
    return chance_decks(120, 10) + lively_decks(120, 11)


def hand_by_hand(deck, level):
    """The names at places below the level whose reach is the level or more, from the top on."""
    reaches = reaches_by_hand(deck)
    return [deck[place][0] for place in range(level) if reaches[place] >= level]


class PlaceOf(unittest.TestCase):
    def test_each_name(self):
        for place, name in enumerate("abcde"):
            self.assertEqual(place_of(FIVE, name), place)
        for deck in some_decks():
            self.assertEqual([place_of(deck, name) for name, _ in deck], list(range(len(deck))))

    def test_one_card_and_forty(self):
        self.assertEqual(place_of([["abcdefgh", 5]], "abcdefgh"), 0)
        self.assertEqual(place_of(deck_with([0] * 40), "bn"), 39)

    def test_no_name(self):
        for name in NO_NAMES + ["f", "aa", "ab", "abcde"]:
            with self.subTest(name=name):
                self.assertIs(refusal(place_of, FIVE, name), NoName)

    def test_no_deck_goes_first(self):
        for thing in NO_DECKS:
            for name in ("a", "x", "q", "", None, 0):
                self.assertIs(refusal(place_of, thing, name), NoDeck, thing)


class IsHome(unittest.TestCase):
    def test_above_the_closed_place_and_beneath(self):
        self.assertEqual([is_home(FIVE, name) for name in "abcde"], [True, True, False, False, True])

    def test_the_place_is_the_reach_or_one_less_or_one_more(self):
        for place in (1, 2, 7, 38):
            for depth, home in ((place - 1, False), (place, True), (place + 1, True), (0, False), (HUGE, True)):
                deck = deck_with([40] * place + [depth] + [40] * (39 - place))
                self.assertIs(is_home(deck, deck[place][0]), home)

    def test_the_last_card_by_its_depth(self):
        for depth, home in ((1, False), (2, True), (3, True), (HUGE, True)):
            self.assertIs(is_home((("a", 9), ("b", 9), ("c", depth)), "c"), home)

    def test_the_top_is_home(self):
        for deck in some_decks():
            self.assertIs(is_home(deck, deck[0][0]), True)
        self.assertIs(is_home((("a", 0),), "a"), True)

    def test_each_name_of_many_decks(self):
        for deck in some_decks() + small_decks(4, 5):
            reaches = reaches_by_hand(deck)
            told = [is_home(deck, name) for name, _ in deck]
            self.assertEqual(told, [place <= reach for place, reach in enumerate(reaches)])
            self.assertEqual({type(one) for one in told}, {bool})

    def test_a_card_that_is_home_stays_home(self):
        for deck in lively_decks(20, 14) + small_decks(4, 4):
            home = []
            for _ in range(40):
                self.assertTrue(all(is_home(deck, name) for name in home))
                home = [name for name, _ in deck if is_home(deck, name)]
                deck = slid_by_hand(deck)

    def test_no_name(self):
        for name in NO_NAMES + ["f", "aa", "ab", "abcde"]:
            with self.subTest(name=name):
                self.assertIs(refusal(is_home, FIVE, name), NoName)

    def test_no_deck_goes_first(self):
        for thing in NO_DECKS:
            for name in ("a", "x", "q", "", None, 0):
                self.assertIs(refusal(is_home, thing, name), NoDeck, thing)


class ClosedPlace(unittest.TestCase):
    def test_at_1(self):
        self.assertEqual(closed_place((("a", 0),)), 1)
        self.assertEqual(closed_place((("a", HUGE),)), 1)
        self.assertEqual(closed_place((("a", 0), ("b", 1))), 1)
        self.assertEqual(closed_place(deck_with([0] + [39] * 39)), 1)

    def test_in_the_middle(self):
        self.assertEqual(closed_place(FIVE), 3)
        self.assertEqual(closed_place((("a", 1), ("b", 0), ("c", 9))), 2)
        for place in range(1, 40):
            self.assertEqual(closed_place(deck_with([place - 1] + [0] * 39)), place)
            self.assertEqual(closed_place(deck_with(list(range(1, place)) + [place - 1] + [39] * (40 - place))), place)

    def test_at_the_number_of_cards(self):
        self.assertEqual(closed_place((("a", 2), ("b", 0), ("c", 0))), 3)
        self.assertEqual(closed_place((("a", HUGE), ("b", 0), ("c", 0))), 3)
        self.assertEqual(closed_place((("a", 1), ("b", 2), ("c", 0))), 3)
        self.assertEqual(closed_place(deck_with(range(1, 41))), 40)
        self.assertEqual(closed_place(deck_with([39] + [0] * 39)), 40)

    def test_many_decks(self):
        for deck in some_decks() + small_decks(4, 5) + small_decks(3, 4) + small_decks(2, 3):
            self.assertEqual(closed_place(deck), closed_by_hand(deck))

    def test_what_lies_there_and_beneath_never_moves(self):
        for deck in chance_decks(60, 15) + lively_decks(60, 16) + small_decks(4, 4):
            closed = closed_place(deck)
            now = deck
            for _ in range(60):
                now = slid_by_hand(now)
                self.assertEqual(now[closed:], deck[closed:])

    def test_no_lesser_place_would_do(self):
        for deck in small_decks(4, 4):
            closed = closed_place(deck)
            reaches = reaches_by_hand(deck)
            for place in range(1, closed):
                self.assertGreaterEqual(max(reaches[:place]), place)

    def test_no_deck(self):
        for thing in NO_DECKS:
            self.assertIs(refusal(closed_place, thing), NoDeck, thing)


class Away(unittest.TestCase):
    def test_none(self):
        for deck in ((("a", 0),), (("a", 1), ("b", 2), ("c", 3)), deck_with([39] * 40), deck_with(range(40))):
            told = away(deck)
            self.assertEqual(told, [])
            self.assertIs(type(told), list)

    def test_none_but_beneath_the_closed_place(self):
        self.assertEqual(away((("a", 0), ("b", 0), ("c", 0))), [])
        self.assertEqual(away((("a", 1), ("b", 1), ("c", 1), ("d", 3), ("e", 0))), [])

    def test_one(self):
        self.assertEqual(away(FIVE), ["c"])
        self.assertEqual(away((("a", 1), ("b", 0), ("c", 9))), ["b"])
        self.assertEqual(away([["a", 2], ["b", 2], ["c", 1]]), ["c"])

    def test_many_from_the_top_on(self):
        self.assertEqual(away((("d", 9), ("c", 0), ("a", 9), ("b", 1), ("e", 3))), ["c", "b", "e"])
        deck = deck_with([39] + [0] * 39)
        self.assertEqual(away(deck), [name for name, _ in deck[1:]])
        falling = deck_with(range(39, -1, -1))
        self.assertEqual(away(falling), [name for name, _ in falling[20:]])

    def test_many_decks(self):
        for deck in some_decks() + small_decks(4, 5) + small_decks(3, 4):
            self.assertEqual(away(deck), away_by_hand(deck))

    def test_no_deck(self):
        for thing in NO_DECKS:
            self.assertIs(refusal(away, thing), NoDeck, thing)


class HandsAndRings(unittest.TestCase):
    def test_level_0(self):
        self.assertEqual(hand_at((("a", 0),), 0), [])
        self.assertEqual(ring_at((("a", 0),), 0), ["a"])
        for deck in some_decks():
            self.assertEqual(hand_at(deck, 0), [])
            self.assertEqual(ring_at(deck, 0), [deck[0][0]])

    def test_each_level(self):
        deck = (("a", 4), ("b", 1), ("c", 3), ("d", 3), ("e", 2))
        self.assertEqual([hand_at(deck, level) for level in range(5)], [[], ["a"], ["a"], ["a", "c"], ["a"]])
        rings = [["a"], ["a", "b"], ["a", "c"], ["a", "c", "d"], ["a", "e"]]
        self.assertEqual([ring_at(deck, level) for level in range(5)], rings)
        self.assertEqual([hand_at(FIVE, level) for level in range(3)], [[], ["a"], ["b"]])
        self.assertEqual([ring_at(FIVE, level) for level in range(3)], [["a"], ["a", "b"], ["b", "c"]])

    def test_the_last_level(self):
        forty = deck_with([39] * 40)
        self.assertEqual(hand_at(forty, 39), [name for name, _ in forty[:39]])
        self.assertEqual(ring_at(forty, 39), [name for name, _ in forty])
        for deck in some_decks():
            last = closed_by_hand(deck) - 1
            self.assertEqual(hand_at(deck, last), hand_by_hand(deck, last))
            self.assertEqual(ring_at(deck, last), hand_by_hand(deck, last) + [deck[last][0]])

    def test_each_level_of_many_decks(self):
        for deck in some_decks() + small_decks(4, 5):
            for level in range(closed_by_hand(deck)):
                hand = hand_by_hand(deck, level)
                self.assertEqual(hand_at(deck, level), hand)
                self.assertEqual(ring_at(deck, level), hand + [deck[level][0]])

    def test_a_step_of_a_level_sees_the_first_of_its_ring(self):
        for deck in lively_decks(30, 17, 5) + small_decks(4, 4):
            for _ in range(20):
                reach = reaches_by_hand(deck)[0]
                for level in range(reach + 1):
                    self.assertEqual(ring_at(deck, level)[0], deck[0][0])
                deck = slid_by_hand(deck)

    def test_no_level(self):
        for deck in (FIVE, (("a", 0),), (("a", 1), ("b", 0), ("c", 9)), deck_with([39] * 40), deck_with(range(1, 41))):
            closed = closed_by_hand(deck)
            for level in not_numbers(closed - 1) + [len(deck), len(deck) + 1]:
                with self.subTest(deck=deck, level=level):
                    self.assertIs(refusal(hand_at, deck, level), NoLevel)
                    self.assertIs(refusal(ring_at, deck, level), NoLevel)

    def test_the_levels_end_ahead_of_the_closed_place(self):
        for deck in some_decks() + small_decks(3, 4):
            closed = closed_by_hand(deck)
            told = [refusal(ring_at, deck, level) for level in range(-2, len(deck) + 2)]
            self.assertEqual(told, [NoLevel] * 2 + [None] * closed + [NoLevel] * (len(deck) + 2 - closed))
            told = [refusal(hand_at, deck, level) for level in range(-2, len(deck) + 2)]
            self.assertEqual(told, [NoLevel] * 2 + [None] * closed + [NoLevel] * (len(deck) + 2 - closed))

    def test_no_deck_goes_first(self):
        for thing in NO_DECKS:
            for level in (0, 1, -1, True, None, 99):
                self.assertIs(refusal(hand_at, thing, level), NoDeck, thing)
                self.assertIs(refusal(ring_at, thing, level), NoDeck, thing)


class AsItGoesOn(unittest.TestCase):
    """Promise 10, of decks as they come: away ones come home, and do not go away again."""

    def test_cards_away(self):
        for deck in lively_decks(40, 18, 4):
            told = away(deck)
            for _ in range(50):
                deck = slid_by_hand(deck)
                now = away(deck)
                self.assertEqual([name for name in now if name not in told], [])
                told = now

    def test_the_closed_place_goes_up_alone(self):
        for deck in lively_decks(40, 19, 4):
            for steps in (1, 10, 100):
                self.assertLessEqual(closed_place(gone_by_hand(deck, steps)[1]), closed_place(deck))


class ListsAndTuples(unittest.TestCase):
    """Promise 2: lists and tuples are taken alike, down to the cards."""

    def test_each_form_is_told_the_same(self):
        for form in all_forms(FIVE):
            with self.subTest(form=form):
                self.assertEqual([place_of(form, name) for name in "edcba"], [4, 3, 2, 1, 0])
                self.assertEqual([is_home(form, name) for name in "abcde"], [True, True, False, False, True])
                self.assertEqual(closed_place(form), 3)
                self.assertEqual(away(form), ["c"])
                self.assertEqual(hand_at(form, 2), ["b"])
                self.assertEqual(ring_at(form, 2), ["b", "c"])


if __name__ == "__main__":
    unittest.main()
