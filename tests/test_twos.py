"""Promises 23 and 24: where two decks part, in which order names are first seen, and what settled decks show."""

import unittest
from math import lcm
from random import Random

from slideback.comings import fate, settled_behind
from slideback.errors import NoDeck, NoStep
from slideback.far import deck_at, how_often, seen_at, when_seen
from slideback.rounds import round_of
from slideback.twos import first_sights, parting, unlike_places
from tests.common import (
    HUGE, NO_COUNTS, NO_DECKS, GoneByHand, all_forms, away_by_hand, chance_decks, closed_by_hand, crowded_deck,
    deck_with, far_decks, far_steps, gone_by_hand, late_deck, late_decks, lively_decks, near_decks,
    plateau_deck, reaches_by_hand, refusal, rising_deck, settled_decks, small_decks,
)

# Behind one step b is seen for ever.
THREE = (("a", 1), ("b", 0), ("c", 9))
TURNING = (("a", 1), ("b", 2), ("c", 2))


def made_otherwise(deck, chance, least=0):
    """A deck that is like another one but at places from the least on: a depth, an order or a card is otherwise."""
    cards = list(deck)
    at = chance.randrange(least, len(cards))
    with_ = chance.randrange(least, len(cards))
    way = chance.randrange(6)
    if way < 2:
        cards[at] = (cards[at][0], chance.randint(0, len(cards) + 1))
    elif way == 2:
        cards[at], cards[with_] = cards[with_], cards[at]
    elif way == 3:
        cards.insert(at, ("new", chance.randint(0, len(cards) + 1)))
    elif way == 4:
        cards.append(("new", chance.randint(0, len(cards) + 1)))
    elif len(cards) > 1:
        cards.pop(at)
    return tuple(cards[:40])


def two_decks(many, seed):
    """Pairs of small decks that are mostly alike."""
    chance = Random(seed)
    decks = lively_decks(many, seed + 1, 2, 7, odds=0.1) + lively_decks(many, seed + 2, 3, 7, odds=0.4)
    decks += chance_decks(many // 2, seed + 3, 7)
    return [(deck, made_otherwise(deck, chance)) for deck in decks]


def far_pairs(seed):
    """Pairs of large decks that are mostly alike, some of them but for their last cards."""
    chance = Random(seed)
    decks = far_decks() + late_decks(12, seed) + lively_decks(20, seed + 1, 25, odds=0) + [rising_deck(40)] * 4
    return [(deck, made_otherwise(deck, chance, least)) for deck in decks for least in (0, len(deck) - 6)]


def parting_by_hand(one, other):
    """The first step at which two small decks show unlike names, or None."""
    here, there = GoneByHand(one), GoneByHand(other)
    # From where both have come round once, all has been seen together.
    steps = max(here.first, there.first) + lcm(here.length, there.length)
    for step in range(steps):
        if here.names[here.index(step)] != there.names[there.index(step)]:
            return step
    return None


def shown_by_hand(deck):
    """For each place above the closed one, the name and the reach of the card there."""
    return list(zip([name for name, _ in deck], reaches_by_hand(deck)))[:closed_by_hand(deck)]


def unlike_by_hand(one, other):
    """The places at which two decks differ above the greater one of their closed places."""
    here = dict(enumerate(shown_by_hand(one)))
    there = dict(enumerate(shown_by_hand(other)))
    return [place for place in range(40) if here.get(place) != there.get(place)]


class Parting(unittest.TestCase):
    def test_at_once(self):
        self.assertEqual(parting((("a", 0),), (("b", 0),)), 0)
        self.assertEqual(parting(TURNING, TURNING[::-1]), 0)
        self.assertEqual(parting(rising_deck(40), rising_deck(40)[1:]), 0)

    def test_few_steps_on(self):
        self.assertEqual(parting(TURNING, (("a", 1), ("c", 2), ("b", 2))), 1)
        self.assertEqual(parting((("a", 0),), (("a", 1), ("b", 1))), 1)
        self.assertEqual(parting(THREE, (("a", 1), ("b", 1))), 2)
        self.assertEqual(parting(TURNING, (("a", 1), ("b", 1), ("c", 2))), 3)
        self.assertEqual(parting((("a", 9), ("b", 9), ("c", 9)), (("a", 1), ("b", 9), ("c", 9))), 2)

    def test_the_same_deck(self):
        for deck in near_decks() + far_decks():
            self.assertIsNone(parting(deck, deck))

    def test_decks_that_show_the_same_for_ever(self):
        # What lies beneath the closed place, and depths that are more than reaches, do not show.
        self.assertIsNone(parting((("a", 0),), (("a", 7),)))
        self.assertIsNone(parting((("a", 0), ("b", 1)), (("a", 0), ("c", 0), ("d", 9))))
        self.assertIsNone(parting((("a", 1), ("b", 1), ("c", 0)), (("a", 1), ("b", 9))))
        self.assertIsNone(parting(TURNING, (("a", 1), ("b", 9), ("c", HUGE))))
        self.assertIsNone(parting(TURNING, TURNING + (("d", 1), ("e", 0))))
        self.assertIsNone(parting(rising_deck(39), rising_deck(38) + (("bm", 38), ("bn", 0))))

    def test_decks_with_cards_away_that_show_the_same_for_ever(self):
        self.assertIsNone(parting(THREE, (("a", 1), ("b", 0))))
        self.assertIsNone(parting(THREE, (("a", 2), ("b", 0), ("d", 9), ("c", 9))))
        # One of them has a card away that is never seen.
        self.assertIsNone(parting((("a", 3), ("b", 0), ("c", 1), ("d", 3)), (("a", 1), ("b", 0))))
        settled = deck_at(late_deck(40, 38), 2 ** 38)
        self.assertIsNone(parting(settled, settled[:39]))

    def test_one_card(self):
        self.assertIsNone(parting([["a", 0]], [["a", HUGE]]))
        self.assertEqual(parting([["a", 0]], [["b", 0]]), 0)
        self.assertEqual(parting([["a", 5]], TURNING), 1)

    def test_all_pairs_of_small_decks(self):
        decks = small_decks(3, 3) + small_decks(2, 2) + small_decks(1, 1)
        decks += [deck[1:] + deck[:1] for deck in small_decks(3, 3)]
        for one in decks:
            for other in decks:
                self.assertEqual(parting(one, other), parting_by_hand(one, other))

    def test_pairs_of_four_cards(self):
        chance = Random(230)
        decks = small_decks(4, 4)
        for one in decks:
            for other in chance.sample(decks, 6):
                self.assertEqual(parting(one, other), parting_by_hand(one, other))

    def test_pairs_that_are_mostly_alike(self):
        told = []
        for one, other in two_decks(500, 231):
            expected = parting_by_hand(one, other)
            self.assertEqual(parting(one, other), expected, (one, other))
            self.assertEqual(parting(other, one), expected, (one, other))
            told.append(expected)
        self.assertGreater(told.count(None), 50)
        self.assertGreater(len([step for step in told if step is not None and step > 20]), 20)
        self.assertGreater(len(set(told)), 20)

    def test_settled_decks_that_are_mostly_alike(self):
        late = 0
        chance = Random(232)
        for deck in lively_decks(300, 233, 4, 7, odds=0):
            at = chance.randrange(len(deck) // 2, len(deck))
            other = deck[:at] + ((deck[at][0], chance.randint(at, len(deck))),) + deck[at + 1:]
            expected = parting_by_hand(deck, other)
            self.assertEqual(parting(deck, other), expected)
            self.assertEqual(parting(other, deck), expected)
            late += expected is not None and expected > 6
        self.assertGreater(late, 30)

    def test_far_on_by_a_plain_formula(self):
        for cards in (3, 4, 10, 30, 40):
            deck = rising_deck(cards)
            turned = deck[:-2] + (deck[-1], deck[-2])
            self.assertEqual(parting(deck, turned), 2 ** (cards - 2) - 1)
            self.assertEqual(parting(turned, deck), 2 ** (cards - 2) - 1)
            # The last but one is seen, and comes again where it should not.
            shallow = deck[:-2] + ((deck[-2][0], cards - 2), deck[-1])
            self.assertEqual(parting(deck, shallow), 2 ** (cards - 1) - 1)
            self.assertEqual(parting(shallow, deck), 2 ** (cards - 1) - 1)
            late = late_deck(cards, cards - 2)
            self.assertEqual(parting(deck, late), 3 * 2 ** (cards - 2) - 1)
            self.assertEqual(parting(late, deck), 3 * 2 ** (cards - 2) - 1)

    def test_far_ones_show_unlike_names_there_and_none_ahead(self):
        far = 0
        for one, other in far_pairs(234):
            step = parting(one, other)
            self.assertEqual(parting(other, one), step)
            if step is None:
                continue
            far += step > 10 ** 6
            self.assertNotEqual(seen_at(one, step), seen_at(other, step))
            for name in {card[0] for card in one[:12] + one[-3:]} & {card[0] for card in other}:
                self.assertEqual(how_often(one, step, name), how_often(other, step, name))
            chance = Random(235)
            for ahead in [chance.randrange(step) for _ in range(10)] if step else []:
                self.assertEqual(seen_at(one, ahead), seen_at(other, ahead))
            near = min(step, 500)
            self.assertEqual(gone_by_hand(one, near)[0], gone_by_hand(other, near)[0])
            before = max(0, step - 300)
            self.assertEqual(
                gone_by_hand(deck_at(one, before), step - before)[0],
                gone_by_hand(deck_at(other, before), step - before)[0],
            )
        self.assertGreater(far, 3)

    def test_those_that_never_part_show_the_same(self):
        none = 0
        for one, other in far_pairs(236):
            if parting(one, other) is None:
                none += 1
                for step in far_steps(20, 237):
                    self.assertEqual(seen_at(one, step), seen_at(other, step))
                steps = max(settled_behind(one), settled_behind(other))
                here, there = deck_at(one, steps), deck_at(other, steps)
                self.assertEqual(shown_by_hand(here), shown_by_hand(there))
        self.assertGreater(none, 3)

    def test_those_gone_on_part_so_many_steps_sooner(self):
        for one, other in far_pairs(238)[::2] + two_decks(40, 239):
            step = parting(one, other)
            for steps in (1, 2, 9, 10 ** 6, 10 ** 11) + (() if step is None else (step - 1, step, step // 2)):
                if steps < 0:
                    continue
                later = parting(deck_at(one, steps), deck_at(other, steps))
                if step is None:
                    self.assertIsNone(later)
                elif steps <= step:
                    self.assertEqual(later, step - steps)

    def test_a_deck_and_itself_gone_on(self):
        # Two phases of one round show unlike names before the round is over.
        for deck in settled_decks()[::5] + [rising_deck(40), plateau_deck(12)]:
            length = round_of(deck)[1]
            for steps in far_steps(3, 240) + [1, length - 1]:
                step = parting(deck, deck_at(deck, steps))
                if steps % length == 0:
                    self.assertIsNone(step)
                else:
                    self.assertLess(step, length)
                    self.assertNotEqual(seen_at(deck, step), seen_at(deck, step + steps))
            self.assertIsNone(parting(deck, deck_at(deck, length * HUGE)))

    def test_many_comings_home_on_the_way(self):
        deck = crowded_deck()
        closes = settled_behind(deck)
        # A card that is moved beneath the last closed place alone is never missed.
        self.assertIsNone(parting(deck, deck))
        told = parting(deck, deck[:38] + ((deck[38][0], deck[38][1] + 1), deck[39]))
        self.assertEqual(told, parting(deck[:38] + ((deck[38][0], deck[38][1] + 1), deck[39]), deck))
        for place in range(30, 40):
            other = deck[:place] + ((deck[place][0], 39),) + deck[place + 1:]
            step = parting(deck, other)
            if step is not None and step > 500:
                self.assertNotEqual(seen_at(deck, step), seen_at(other, step))
                self.assertEqual(seen_at(deck, step - 1), seen_at(other, step - 1))
                self.assertLess(step, closes + 2)

    def test_the_kinds_that_are_told(self):
        self.assertIs(type(parting(TURNING, THREE)), int)
        self.assertIs(type(parting(THREE, TURNING)), int)

    def test_no_deck(self):
        for thing in NO_DECKS:
            for other in (TURNING, [["a", 0]], thing):
                self.assertIs(refusal(parting, thing, other), NoDeck, thing)
                self.assertIs(refusal(parting, other, thing), NoDeck, thing)


class FirstSights(unittest.TestCase):
    def test_few_cards(self):
        self.assertEqual(first_sights(TURNING, 0), ["a", "b", "c"])
        self.assertEqual(first_sights(TURNING, 1), ["b", "a", "c"])
        self.assertEqual(first_sights(TURNING, 2), ["a", "c", "b"])
        self.assertEqual([first_sights(THREE, step) for step in (0, 1, 2, HUGE)], [["a", "b"], ["b"], ["b"], ["b"]])
        self.assertEqual(first_sights([["abc", 4]], HUGE), ["abc"])

    def test_a_name_that_is_seen_a_last_time(self):
        deck = (("a", 4), ("b", 2), ("c", 2), ("d", 0), ("e", 1))
        told = [first_sights(deck, step) for step in range(4)]
        self.assertEqual(told, [list("abcd"), list("bcd"), list("cd"), ["d"]])

    def test_small_decks_step_by_step(self):
        for deck in lively_decks(60, 250, 3, 8, odds=0.3) + chance_decks(40, 251, 8) + small_decks(3, 4):
            gone = GoneByHand(deck)
            for step in sorted({0, 1, 2, 3, 7, 20, max(0, gone.first - 1), gone.first, gone.first + 5}):
                index = gone.index(step)
                names = gone.names[index:] + gone.names[gone.first:]
                order = sorted(set(names), key=names.index)
                self.assertEqual(first_sights(deck, step), order)
                there = gone.behind(step)
                self.assertEqual([name for name, _ in there[:len(order)]], order)

    def test_settled_decks(self):
        for deck in settled_decks():
            for step in (0, 1, 99, HUGE):
                there = deck_at(deck, step)
                self.assertEqual(first_sights(deck, step), [name for name, _ in there[:closed_by_hand(deck)]])

    def test_far_on_by_when_they_are_seen(self):
        for deck in far_decks() + late_decks(6, 252):
            settled = settled_behind(deck)
            for step in sorted({0, 3, 10 ** 6, max(0, settled - 2), max(0, settled - 1), settled, HUGE}):
                there = deck_at(deck, step)
                when = {name: when_seen(there, name, 0) for name, _ in there}
                seen = sorted([name for name in when if when[name] is not None], key=lambda name: when[name])
                self.assertEqual(first_sights(deck, step), seen)
                self.assertEqual([name for name, _ in there[:len(seen)]], seen)

    def test_the_last_sight_is_the_last_step(self):
        for deck in far_decks():
            for name, _ in deck:
                one = fate(deck, name)
                if one[0] == "last":
                    self.assertEqual(first_sights(deck, one[1])[0], name)
                    self.assertNotIn(name, first_sights(deck, one[1] + 1))

    def test_the_kinds_that_are_told(self):
        for step in (0, 1, HUGE):
            told = first_sights(THREE, step)
            self.assertIs(type(told), list)
            self.assertEqual({type(name) for name in told}, {str})

    def test_no_step(self):
        for deck in (THREE, [["a", 0]], rising_deck(40)):
            for thing in NO_COUNTS:
                with self.subTest(thing=thing):
                    self.assertIs(refusal(first_sights, deck, thing), NoStep)

    def test_no_deck_goes_first(self):
        for thing in NO_DECKS:
            for step in (0, 1, -1, True, None):
                self.assertIs(refusal(first_sights, thing, step), NoDeck, thing)


class UnlikePlaces(unittest.TestCase):
    def test_none(self):
        self.assertEqual(unlike_places(TURNING, TURNING), (0, []))
        self.assertEqual(unlike_places(TURNING, (("a", 1), ("b", 9), ("c", HUGE))), (0, []))
        self.assertEqual(unlike_places(TURNING, TURNING + (("d", 1), ("e", 0))), (0, []))
        self.assertEqual(unlike_places(THREE, (("a", 1), ("b", 0))), (1, []))
        self.assertEqual(unlike_places((("a", 0),), (("a", 3), )), (0, []))

    def test_some(self):
        self.assertEqual(unlike_places(TURNING, (("a", 1), ("c", 2), ("b", 2))), (0, [1, 2]))
        self.assertEqual(unlike_places(TURNING, (("a", 2), ("b", 2), ("c", 2))), (0, [0]))
        self.assertEqual(unlike_places(TURNING, (("a", 1), ("b", 2), ("d", 2))), (0, [2]))

    def test_all(self):
        self.assertEqual(unlike_places(TURNING, (("c", 2), ("a", 1), ("b", 2))), (0, [0, 1, 2]))
        one, other = rising_deck(40), deck_with([39] * 40)
        self.assertEqual(unlike_places(one, other[1:] + other[:1]), (0, list(range(40))))

    def test_in_name_or_in_reach(self):
        one = (("a", 1), ("b", 2), ("c", 3), ("d", 3))
        self.assertEqual(unlike_places(one, (("a", 1), ("b", 3), ("c", 3), ("d", 3))), (0, [1]))
        self.assertEqual(unlike_places(one, (("a", 1), ("x", 2), ("c", 3), ("d", 3))), (0, [1]))
        self.assertEqual(unlike_places(one, (("a", 1), ("b", 2), ("c", 4), ("d", 9))), (0, []))
        # Of more cards a depth is more of a reach.
        self.assertEqual(unlike_places((("a", 1), ("b", 3), ("c", 3)), one), (0, [2, 3]))
        self.assertEqual(unlike_places((("a", 1), ("b", 2), ("c", 3)), one), (0, [2, 3]))

    def test_unlike_closed_places(self):
        self.assertEqual(unlike_places((("a", 1), ("b", 1), ("c", 2)), (("a", 1), ("b", 2), ("c", 2))), (0, [1, 2]))
        # Both have the same card at the last place, and one of them beneath its closed place.
        self.assertEqual(unlike_places((("a", 0), ("b", 1), ("c", 2)), (("a", 2), ("b", 1), ("c", 2))), (0, [0, 1, 2]))
        one, other = deck_with([0] + [39] * 39), deck_with([39] * 40)
        self.assertEqual(unlike_places(one, other), (0, list(range(40))))
        self.assertEqual(unlike_places(other, one), (0, list(range(40))))
        self.assertEqual(unlike_places(deck_with([0]), rising_deck(40)), (0, list(range(40))))

    def test_beneath_both_closed_places(self):
        self.assertEqual(unlike_places((("a", 0), ("b", 1)), (("a", 0), ("c", 0), ("d", 9))), (0, []))
        self.assertEqual(unlike_places((("a", 1), ("b", 1), ("c", 1)), (("b", 1), ("a", 1), ("d", 1))), (0, [0, 1]))

    def test_settled_behind_some_steps(self):
        two = (("a", 1), ("b", 2), ("c", 1))
        self.assertEqual(unlike_places(THREE, two), (2, [0, 1]))
        self.assertEqual(unlike_places(two, THREE), (2, [0, 1]))
        # The one that is settled at once has gone on as far.
        self.assertEqual(unlike_places(two, TURNING), (2, [1, 2]))
        self.assertEqual(unlike_places(TURNING, two), (2, [1, 2]))

    def test_pairs_step_by_step(self):
        for one, other in two_decks(300, 260):
            here, there = GoneByHand(one), GoneByHand(other)
            steps = max(here.first, there.first)
            expected = (steps, unlike_by_hand(here.behind(steps), there.behind(steps)))
            self.assertEqual(unlike_places(one, other), expected)
            self.assertEqual(unlike_places(other, one), expected)

    def test_far_pairs_by_the_decks_there(self):
        far = 0
        for one, other in far_pairs(261):
            steps, places = unlike_places(one, other)
            self.assertEqual(unlike_places(other, one), (steps, places))
            here, there = deck_at(one, steps), deck_at(other, steps)
            self.assertEqual(away_by_hand(here) + away_by_hand(there), [])
            if steps:
                away = away_by_hand(deck_at(one, steps - 1)) + away_by_hand(deck_at(other, steps - 1))
                self.assertNotEqual(away, [])
            self.assertEqual(places, unlike_by_hand(here, there))
            far += steps > 10 ** 6
        self.assertGreater(far, 10)

    def test_settled_only_far_on(self):
        for cards in (3, 4, 20, 40):
            late = late_deck(cards, cards - 2)
            home = 2 ** (cards - 2)
            told = unlike_places(late, rising_deck(cards))
            self.assertEqual(told, (home, [cards - 2, cards - 1]))
            self.assertEqual(unlike_places(rising_deck(cards), late), told)
            self.assertEqual(unlike_places(late, deck_at(late, 2 * home)), (home, []))

    def test_none_just_where_they_never_part_from_there_on(self):
        told = set()
        for one, other in far_pairs(262) + two_decks(150, 263):
            steps, places = unlike_places(one, other)
            never = parting(deck_at(one, steps), deck_at(other, steps)) is None
            self.assertEqual(never, places == [])
            told.add(never)
        self.assertEqual(told, {True, False})

    def test_the_kinds_that_are_told(self):
        for other in (TURNING, THREE, (("c", 2), ("a", 1), ("b", 2))):
            told = unlike_places(TURNING, other)
            self.assertEqual([type(thing) for thing in (told,) + told], [tuple, int, list])
            self.assertLessEqual({type(place) for place in told[1]}, {int})

    def test_no_deck(self):
        for thing in NO_DECKS:
            for other in (TURNING, [["a", 0]], thing):
                self.assertIs(refusal(unlike_places, thing, other), NoDeck, thing)
                self.assertIs(refusal(unlike_places, other, thing), NoDeck, thing)


class ListsAndTuples(unittest.TestCase):
    """Promise 2: lists and tuples are taken alike, down to the cards."""

    def test_each_form_is_told_the_same(self):
        for form in all_forms(THREE):
            with self.subTest(form=form):
                self.assertEqual(first_sights(form, 0), ["a", "b"])
                for other in all_forms(TURNING):
                    self.assertEqual(parting(form, other), 2)
                    self.assertEqual(parting(other, form), 2)
                    self.assertEqual(unlike_places(form, other), (1, [0, 1, 2]))
                    self.assertEqual(unlike_places(other, form), (1, [0, 1, 2]))


if __name__ == "__main__":
    unittest.main()
