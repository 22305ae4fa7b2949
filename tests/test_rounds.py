"""Promises 20, 21 and 22: rounds, shares, and the steps from one settled deck to another."""

import unittest
from fractions import Fraction
from math import factorial, gcd
from random import Random

from slideback.errors import NoDeck, NoName, NoOrder, NotSettled
from slideback.far import deck_at, how_often
from slideback.homes import orders_counted, patterns
from slideback.rounds import round_length, round_of, rounds_counted, share, steps_to
from tests.common import (
    HUGE, NO_DECKS, NO_NAMES, GoneByHand, all_forms, away_by_hand, chance_decks, closed_by_hand, crowded_deck,
    deck_with, far_decks, far_steps, is_home_order, late_deck, late_decks, lively_decks, orders_by_hand,
    plateau_deck, primes_of, refusal, rising_deck, settled_decks, slid_by_hand, small_decks,
)

# Settled: the round is of four steps, of which a is seen by two, b and c by one each.
TURNING = (("a", 1), ("b", 2), ("c", 2))
# Not settled: behind one step b is seen for ever.
THREE = (("a", 1), ("b", 0), ("c", 9))


def many_decks():
    """Small decks that are gone through card by card, and depths that are more than reaches."""
    decks = lively_decks(150, 200, 3, 8) + lively_decks(100, 201, 3, 8, odds=0.5) + chance_decks(100, 202, 8)
    return decks + small_decks(3, 4) + small_decks(4, 4) + small_decks(2, 3) + small_decks(1, 2)


def large_decks():
    """Large decks, settled ones and others, with short rounds and long ones."""
    decks = far_decks() + late_decks(10, 203) + lively_decks(30, 204, 20, odds=0) + settled_decks()[::6]
    return decks + [plateau_deck(size) for size in (2, 3, 12, 20, 39, 40)]


def chance_order(cards, chance):
    """A home order of cards that have one, filled up from the last place on."""
    left = list(cards)
    order = []
    for place in reversed(range(len(cards))):
        card = chance.choice([card for card in left if min(card[1], len(cards) - 1) >= place])
        left.remove(card)
        order.insert(0, card)
    return tuple(order)


def lasting_cards(many, seed, least=2, most=40):
    """So many settled decks, the same ones each time, that are closed at their end alone."""
    decks = lively_decks(4 * many, seed, least, most, odds=0)
    return [deck for deck in decks if closed_by_hand(deck) == len(deck)][:many]


class RoundOf(unittest.TestCase):
    def test_settled_decks(self):
        self.assertEqual(round_of(TURNING), (0, 4))
        self.assertEqual(round_of((("e", 7), ("a", 2), ("d", 3), ("b", 3), ("c", 9))), (0, 9))
        self.assertEqual(round_of(deck_with([9, 9, 9])), (0, 3))

    def test_rounds_of_one_step(self):
        for deck in ((("a", 0),), (("a", 7),), deck_with(range(40)), deck_with([0] * 40), (("a", 0), ("b", 0))):
            self.assertEqual(round_of(deck), (0, 1))
        self.assertEqual(round_of(THREE), (1, 1))

    def test_decks_with_cards_away(self):
        self.assertEqual(round_of((("a", 1), ("b", 2), ("c", 1))), (2, 2))
        self.assertEqual(round_of((("a", 4), ("b", 2), ("c", 2), ("d", 0), ("e", 1))), (3, 1))

    def test_small_decks_step_by_step(self):
        lengths = set()
        for deck in many_decks():
            gone = GoneByHand(deck)
            self.assertEqual(round_of(deck), (gone.first, gone.length), deck)
            lengths.add(gone.length)
        self.assertGreater(len(lengths), 25)

    def test_levels_of_holes_alone(self):
        # A level without a card of its own may have any phase when the deck comes round.
        for cards in (2, 3, 6, 25, 40):
            self.assertEqual(round_of(deck_with([cards] * cards)), (0, cards))
        deck = deck_with([1, 4, 4, 4, 4])
        self.assertEqual(round_of(deck), (0, GoneByHand(deck).length))
        deck = deck_with([3, 3, 3, 5, 5, 5])
        self.assertEqual(round_of(deck), (0, GoneByHand(deck).length))

    def test_a_rising_deck(self):
        for cards in (1, 2, 3, 10, 39, 40):
            self.assertEqual(round_of(rising_deck(cards)), (0, 2 ** (cards - 1)))

    def test_lengths_of_thirty_figures(self):
        for size in range(2, 41):
            self.assertEqual(round_of(plateau_deck(size)), (0, size ** (41 - size)))
        self.assertGreater(round_of(plateau_deck(12))[1], HUGE)

    def test_a_round_that_begins_far_on(self):
        for cards in (3, 4, 20, 40):
            deck = late_deck(cards, cards - 2)
            self.assertEqual(round_of(deck), (2 ** (cards - 2), 2 ** (cards - 2)))
        self.assertGreater(round_of(crowded_deck())[0], 5 * 10 ** 8)

    def test_first_and_length_are_least(self):
        for deck in large_decks():
            first, length = round_of(deck)
            there = deck_at(deck, first)
            self.assertEqual(deck_at(deck, first + length), there)
            self.assertEqual(deck_at(deck, first + 7 * length), there)
            for prime in primes_of(length):
                self.assertNotEqual(deck_at(deck, first + length // prime), there)
            if first > 0:
                self.assertNotEqual(deck_at(deck, first - 1 + length), deck_at(deck, first - 1))
                self.assertNotEqual(away_by_hand(deck_at(deck, first - 1)), [])
            self.assertEqual(away_by_hand(there), [])

    def test_behind_some_steps(self):
        for deck in large_decks():
            first, length = round_of(deck)
            for steps in (1, 50, first, first + 1, HUGE):
                self.assertEqual(round_of(deck_at(deck, steps)), (max(0, first - steps), length))

    def test_the_kinds_that_are_told(self):
        for deck in (TURNING, THREE, rising_deck(40)):
            told = round_of(deck)
            self.assertEqual([type(thing) for thing in (told,) + told], [tuple, int, int])

    def test_no_deck(self):
        for thing in NO_DECKS:
            self.assertIs(refusal(round_of, thing), NoDeck, thing)


class Share(unittest.TestCase):
    def test_few_cards(self):
        self.assertEqual([share(TURNING, name) for name in "abc"], [(1, 2), (1, 4), (1, 4)])
        self.assertEqual([share(THREE, name) for name in "abc"], [(0, 1), (1, 1), (0, 1)])
        self.assertEqual(share([["a", 4]], "a"), (1, 1))
        deck = (("e", 7), ("a", 2), ("d", 3), ("b", 3), ("c", 9))
        self.assertEqual([share(deck, name) for name in "abcde"], [(1, 3), (2, 9), (1, 9), (2, 9), (1, 9)])

    def test_names_that_are_not_seen_by_the_round(self):
        for deck in settled_decks() + [deck_with([0] * 40), deck_with([38] * 40)]:
            for name, _ in deck[closed_by_hand(deck):]:
                self.assertEqual(share(deck, name), (0, 1))

    def test_a_name_that_is_seen_ahead_of_the_round_alone(self):
        deck = (("a", 4), ("b", 2), ("c", 2), ("d", 0), ("e", 1))
        self.assertEqual([share(deck, name) for name in "abcde"], [(0, 1), (0, 1), (0, 1), (1, 1), (0, 1)])
        deck = late_deck(40, 38)
        self.assertEqual(share(deck, deck[38][0]), (0, 1))
        self.assertEqual(share(deck, deck[39][0]), (1, 2 ** 38))

    def test_small_decks_step_by_step(self):
        for deck in many_decks():
            gone = GoneByHand(deck)
            names = gone.names[gone.first:]
            for name, _ in deck:
                often = names.count(name)
                common = gcd(often, gone.length)
                self.assertEqual(share(deck, name), (often // common, gone.length // common))

    def test_large_decks_by_how_often_a_name_is_seen(self):
        for deck in large_decks():
            first, length = round_of(deck)
            for name, _ in deck[::3]:
                often = how_often(deck, first + length, name) - how_often(deck, first, name)
                part = Fraction(often, length)
                self.assertEqual(share(deck, name), (part.numerator, part.denominator))

    def test_the_shares_of_a_deck_are_one_whole_together(self):
        for deck in large_decks() + many_decks()[::5]:
            self.assertEqual(sum(Fraction(*share(deck, name)) for name, _ in deck), 1)
            for name, _ in deck:
                top, bottom = share(deck, name)
                self.assertEqual(gcd(top, bottom), 1)

    def test_the_kinds_that_are_told(self):
        for name in "abc":
            for deck in (TURNING, THREE):
                told = share(deck, name)
                self.assertEqual([type(thing) for thing in (told,) + told], [tuple, int, int])

    def test_no_name(self):
        for name in NO_NAMES + ["d", "aa", "ab", "abc"]:
            with self.subTest(name=name):
                self.assertIs(refusal(share, THREE, name), NoName)

    def test_no_deck_goes_first(self):
        for thing in NO_DECKS:
            for name in ("a", "x", "q", "", None, 0):
                self.assertIs(refusal(share, thing, name), NoDeck, thing)


class RoundsOfCards(unittest.TestCase):
    """round_length and rounds_counted."""

    def check_by_going_through(self, cards):
        """Compare with all rounds of all home orders."""
        orders = orders_by_hand(cards)
        met = set()
        rounds = 0
        for order in orders:
            if order in met:
                continue
            gone = GoneByHand(order)
            self.assertEqual((gone.first, gone.length), (0, round_length(cards)))
            met.update(gone.decks)
            rounds += 1
        self.assertEqual(rounds, rounds_counted(cards))
        self.assertEqual(len(met), len(orders))

    def test_few_cards(self):
        self.assertEqual((round_length(TURNING), rounds_counted(TURNING)), (4, 1))
        self.assertEqual((round_length([["a", 0]]), rounds_counted([["a", 0]])), (1, 1))
        cards = [["a", 3], ["b", 3], ["c", 3], ["d", 3]]
        self.assertEqual((round_length(cards), rounds_counted(cards)), (4, 6))

    def test_all_small_ones_by_going_through(self):
        for many, depths in ((1, 3), (2, 4), (3, 5), (4, 5)):
            for cards in small_decks(many, depths):
                if orders_by_hand(cards):
                    self.check_by_going_through(cards)

    def test_more_cards_by_going_through(self):
        chance = Random(210)
        for deck in lively_decks(25, 211, 5, 7, odds=0):
            if orders_counted(deck) <= 1000:
                self.check_by_going_through(tuple(chance.sample(deck, len(deck))))

    def test_cards_that_are_not_lasting(self):
        # Each order of theirs is closed early, at the same place; those beneath lie as they do.
        for depths, length, rounds in (
            ([0, 1], 1, 1), ([0, 2, 2], 1, 2), ([1, 1, 3, 3], 2, 2), ([1, 1, 2, 4, 4], 2, 2),
            ([2, 2, 2, 5, 5, 5], 3, 12), ([1, 2, 2, 3, 5, 5], 4, 2),
        ):
            cards = deck_with(depths)
            for one in (cards, cards[::-1]):
                self.assertEqual((round_length(one), rounds_counted(one)), (length, rounds))
            self.check_by_going_through(cards)

    def test_the_order_of_the_cards_does_not_matter(self):
        chance = Random(212)
        for deck in lasting_cards(20, 213) + settled_decks()[::7]:
            if not is_home_order(deck):
                continue
            cards = tuple(chance.sample(deck, len(deck)))
            self.assertEqual(round_length(cards), round_of(deck)[1])
            self.assertEqual(rounds_counted(cards) * round_length(cards), orders_counted(cards))

    def test_all_home_orders_of_large_cards(self):
        chance = Random(214)
        for deck in lasting_cards(30, 215, 10) + [plateau_deck(12), plateau_deck(25), deck_with(range(40))]:
            for _ in range(3):
                self.assertEqual(round_of(chance_order(deck, chance)), (0, round_length(deck)))

    def test_very_many(self):
        cards = deck_with([HUGE] * 40)
        self.assertEqual((round_length(cards), rounds_counted(cards)), (40, factorial(39)))
        cards = rising_deck(40)[::-1]
        self.assertEqual((round_length(cards), rounds_counted(cards)), (2 ** 39, 1))
        cards = plateau_deck(12)[::-1]
        self.assertEqual((round_length(cards), rounds_counted(cards)), (12 ** 29, factorial(11)))
        cards = deck_with(range(39, -1, -1))
        self.assertEqual((round_length(cards), rounds_counted(cards)), (1, 1))
        cards = deck_with([0] + [39] * 39)
        self.assertEqual((round_length(cards), rounds_counted(cards)), (1, factorial(39)))

    def test_no_order(self):
        for depths in ([0, 0], [0] * 40, [1, 1, 1], [39] * 38 + [0, 0], [37] * 39 + [HUGE], [2, 0, 0], [2, 1, 1, 1]):
            for cards in (deck_with(depths), deck_with(depths[::-1])):
                self.assertIs(refusal(round_length, cards), NoOrder)
                self.assertIs(refusal(rounds_counted, cards), NoOrder)
        for cards in small_decks(4, 5) + small_decks(3, 4) + small_decks(2, 3):
            why = None if orders_by_hand(cards) else NoOrder
            self.assertIs(refusal(round_length, cards), why)
            self.assertIs(refusal(rounds_counted, cards), why)

    def test_whole_numbers(self):
        for cards in (TURNING, rising_deck(40)):
            self.assertEqual([type(round_length(cards)), type(rounds_counted(cards))], [int, int])

    def test_no_deck(self):
        for thing in NO_DECKS:
            self.assertIs(refusal(round_length, thing), NoDeck, thing)
            self.assertIs(refusal(rounds_counted, thing), NoDeck, thing)


class StepsTo(unittest.TestCase):
    def test_to_itself(self):
        for deck in settled_decks():
            told = steps_to(deck, deck)
            self.assertEqual(told, 0)
            self.assertIs(type(told), int)

    def test_few_cards(self):
        deck = TURNING
        for steps in range(9):
            self.assertEqual(steps_to(TURNING, deck), steps % 4)
            self.assertEqual(steps_to(deck, TURNING), -steps % 4)
            deck = slid_by_hand(deck)

    def test_small_cards_step_by_step(self):
        met = {None: 0}
        for cards in small_decks(3, 4) + small_decks(2, 3) + small_decks(4, 4)[::3] + [deck_with([3, 3, 3, 3])]:
            orders = orders_by_hand(cards)
            for one in orders:
                decks = GoneByHand(one).decks
                for other in orders:
                    expected = decks.index(other) if other in decks else None
                    self.assertEqual(steps_to(one, other), expected)
                    met[expected] = met.get(expected, 0) + 1
        self.assertGreater(min(met[None], met[0], met[1], met[5]), 10)

    def test_more_cards_step_by_step(self):
        chance = Random(220)
        for deck in lively_decks(60, 221, 5, 8, odds=0):
            decks = GoneByHand(deck).decks
            for steps in chance.sample(range(len(decks)), min(9, len(decks))):
                self.assertEqual(steps_to(deck, decks[steps]), steps)
                self.assertEqual(steps_to(decks[steps], deck), -steps % len(decks))
            other = chance_order(deck[:closed_by_hand(deck)], chance) + deck[closed_by_hand(deck):]
            self.assertEqual(steps_to(deck, other), decks.index(other) if other in decks else None)

    def test_far_ones_up_and_back(self):
        decks = lasting_cards(25, 222, 12) + [plateau_deck(12), plateau_deck(13), rising_deck(40), deck_with([39] * 40)]
        for deck in decks:
            length = round_of(deck)[1]
            for steps in far_steps(6, 223) + [0, 1, length - 1, length, length + 1, HUGE]:
                there = deck_at(deck, steps)
                self.assertEqual(steps_to(deck, there), steps % length)
                self.assertEqual(steps_to(there, deck), -steps % length)
                further = deck_at(there, HUGE)
                self.assertEqual(steps_to(there, further), HUGE % length)

    def test_from_where_a_deck_is_settled(self):
        for deck in far_decks():
            first, length = round_of(deck)
            here = deck_at(deck, first)
            for steps in far_steps(3, 224):
                self.assertEqual(steps_to(here, deck_at(deck, first + steps)), steps % length)

    def test_another_round(self):
        # Of forty cards that go beneath all there is a round for each way to lie around.
        deck = deck_with([39] * 40)
        self.assertEqual(steps_to(deck, deck[7:] + deck[:7]), 7)
        self.assertIsNone(steps_to(deck, deck[1:2] + deck[:1] + deck[2:]))
        self.assertIsNone(steps_to(deck, deck[::-1]))
        chance = Random(225)
        none = 0
        for one in lasting_cards(30, 226, 10) + [plateau_deck(12), plateau_deck(20)]:
            for _ in range(3):
                other = chance_order(one, chance)
                steps = steps_to(one, other)
                if steps is None:
                    none += 1
                    self.assertIsNone(steps_to(other, one))
                    self.assertIsNone(steps_to(one, deck_at(other, HUGE)))
                else:
                    self.assertEqual(deck_at(one, steps), other)
        self.assertGreater(none, 30)

    def test_phases_that_are_never_met_together(self):
        # Row by row both turn alike, but no number of steps brings each row where the other deck has it.
        for depths in ([2, 3, 3, 4, 4], [2, 4, 4, 4, 4], [1, 3, 5, 5, 5, 5], [2, 3, 5, 5, 5, 5]):
            one = deck_with(depths)
            decks = GoneByHand(one).decks
            never = 0
            for other in orders_by_hand(one):
                self.assertEqual(steps_to(one, other), decks.index(other) if other in decks else None)
                pairs = zip(patterns(one), patterns(other))
                alike = all(mine in [row[at:] + row[:at] for at in range(len(row))] for mine, row in pairs)
                never += alike and other not in decks
            self.assertGreater(never, 5)

    def test_other_cards(self):
        self.assertIsNone(steps_to(TURNING, (("a", 1), ("b", 2), ("d", 2))))
        self.assertIsNone(steps_to(TURNING, TURNING + (("d", 3),)))
        self.assertIsNone(steps_to(TURNING + (("d", 3),), TURNING))
        self.assertIsNone(steps_to((("a", 0),), (("b", 0),)))
        self.assertIsNone(steps_to(deck_with([0, 1]), deck_with([0])))
        self.assertIsNone(steps_to(deck_with([0]), rising_deck(40)))

    def test_another_depth(self):
        self.assertIsNone(steps_to(TURNING, (("a", 1), ("b", 2), ("c", 3))))
        self.assertIsNone(steps_to((("a", 0),), (("a", 1),)))
        self.assertEqual(steps_to((("a", 1), ("b", 2), ("c", 3)), (("b", 2), ("a", 1), ("c", 3))), 1)
        self.assertIsNone(steps_to(deck_with([0, 1, 2]), deck_with([0, 1, 3])))
        self.assertIsNone(steps_to((("a", 1), ("b", 2), ("c", 2)), (("a", 2), ("b", 1), ("c", 2))))

    def test_others_beneath_the_closed_place(self):
        deck = (("a", 1), ("b", 1), ("c", 9), ("d", 9))
        self.assertEqual(steps_to(deck, (("b", 1), ("a", 1), ("c", 9), ("d", 9))), 1)
        self.assertIsNone(steps_to(deck, (("a", 1), ("b", 1), ("d", 9), ("c", 9))))
        self.assertIsNone(steps_to(deck, (("b", 1), ("a", 1), ("d", 9), ("c", 9))))

    def test_not_settled(self):
        self.assertIs(refusal(steps_to, THREE, TURNING), NotSettled)
        self.assertIs(refusal(steps_to, TURNING, THREE), NotSettled)
        self.assertIs(refusal(steps_to, THREE, THREE), NotSettled)
        self.assertIs(refusal(steps_to, THREE, slid_by_hand(THREE)), NotSettled)
        self.assertIs(refusal(steps_to, slid_by_hand(THREE), THREE), NotSettled)
        self.assertIsNone(refusal(steps_to, slid_by_hand(THREE), TURNING))
        for one in small_decks(3, 3):
            for other in small_decks(3, 3)[::4]:
                away = away_by_hand(one) + away_by_hand(other)
                self.assertIs(refusal(steps_to, one, other), NotSettled if away else None)

    def test_settled_though_cards_beneath_the_closed_place_are_not_home(self):
        deck = (("a", 0), ("b", 0), ("c", 1))
        self.assertEqual(steps_to(deck, deck), 0)
        self.assertIsNone(steps_to(deck, (("a", 0), ("c", 1), ("b", 0))))

    def test_no_deck_goes_first(self):
        for thing in NO_DECKS:
            for other in (TURNING, THREE, [["a", 0]], thing):
                self.assertIs(refusal(steps_to, thing, other), NoDeck, thing)
                self.assertIs(refusal(steps_to, other, thing), NoDeck, thing)


class ListsAndTuples(unittest.TestCase):
    """Promise 2: lists and tuples are taken alike, down to the cards."""

    def test_each_form_is_told_the_same(self):
        behind = (("b", 2), ("a", 1), ("c", 2))
        for form in all_forms(TURNING):
            with self.subTest(form=form):
                self.assertEqual(round_of(form), (0, 4))
                self.assertEqual(share(form, "b"), (1, 4))
                self.assertEqual(round_length(form), 4)
                self.assertEqual(rounds_counted(form), 1)
                for other in all_forms(behind):
                    self.assertEqual(steps_to(form, other), 1)
                    self.assertEqual(steps_to(other, form), 3)


if __name__ == "__main__":
    unittest.main()
