"""Promises 17, 18 and 19: comings home, closings and fates; 4, as far as it tells of cards that come home."""

import unittest

from slideback.comings import closings, comings, fate, settled_behind
from slideback.errors import NoDeck, NoName
from slideback.far import deck_at, how_often, seen_at, when_seen
from tests.common import (
    HUGE, NO_DECKS, NO_NAMES, GoneByHand, all_forms, away_by_hand, chance_decks, closed_by_hand, crowded_deck,
    deck_with, far_decks, gone_by_hand, home_by_hand, late_deck, late_decks, lively_decks, near_decks, plateau_deck,
    refusal, rising_deck, settled_decks, slid_by_hand, small_decks,
)

# b comes home at once, which closes the deck above a; c lies beneath both closed places.
THREE = (("a", 1), ("b", 0), ("c", 9))
# Two come home at one step, the sooner one in the alphabet from the lower place.
PAIR = (("m", 3), ("z", 0), ("b", 1), ("k", 3))
# A step shuts e in while it is away, and d comes home by two further ones.
SHUT = (("a", 4), ("b", 2), ("c", 2), ("d", 0), ("e", 1))


def many_decks():
    """Small decks that are gone through card by card."""
    decks = lively_decks(150, 170, 3, 8) + lively_decks(150, 171, 3, 8, odds=0.5) + chance_decks(100, 172, 8)
    return decks + small_decks(3, 4) + small_decks(4, 5) + small_decks(2, 3) + small_decks(1, 2)


def comings_by_hand(deck, steps):
    """The comings home by the first so many steps."""
    told = []
    for step in range(steps):
        behind = slid_by_hand(deck)
        home = home_by_hand(behind)
        names = sorted(name for name in away_by_hand(deck) if name in home)
        if names:
            told.append((step, names))
        deck = behind
    return told


def closings_by_hand(deck, steps):
    """The closings by the first so many steps."""
    told = [(0, closed_by_hand(deck))]
    for step in range(steps):
        deck = slid_by_hand(deck)
        if closed_by_hand(deck) < told[-1][1]:
            told.append((step + 1, closed_by_hand(deck)))
    return told


def fate_by_hand(gone, name):
    """The fate of a name in a deck that was gone through."""
    if name in gone.names[gone.first:]:
        return ("ever",)
    if name in gone.names:
        return ("last", max(step for step, seen in enumerate(gone.names) if seen == name))
    return ("never",)


class Comings(unittest.TestCase):
    def test_none_where_none_is_away(self):
        for deck in settled_decks() + [(("a", 0), ("b", 0), ("c", 1))]:
            told = comings(deck)
            self.assertEqual(told, [])
            self.assertIs(type(told), list)

    def test_one(self):
        self.assertEqual(comings(THREE), [(0, ["b"])])
        self.assertEqual(comings((("a", 1), ("b", 2), ("c", 1))), [(1, ["c"])])
        self.assertEqual(comings([["a", 2], ["b", 2], ["c", 0]]), [(1, ["c"])])

    def test_several_at_one_step(self):
        self.assertEqual(comings(PAIR), [(0, ["b", "z"])])
        deck = deck_with([39] + list(range(39)))
        self.assertEqual(comings(deck), [(0, [name for name, _ in deck[1:]])])
        turned = tuple((deck[39 - place][0], depth) for place, (_, depth) in enumerate(deck))
        self.assertEqual(comings(turned), [(0, [name for name, _ in turned[:0:-1]])])

    def test_names_are_sorted_as_texts(self):
        deck = (("x", 9), ("b", 0), ("aa", 1), ("c", 2), ("ab", 3))
        self.assertEqual(comings(deck), [(0, ["aa", "ab", "b", "c"])])

    def test_one_behind_the_other(self):
        deck = deck_with([39] + [0] * 39)
        self.assertEqual(comings(deck), [(0, [deck[1][0]])])
        deck = deck_with([5, 5, 5, 0, 0, 0])
        self.assertEqual(comings(deck), comings_by_hand(deck, 60))
        self.assertEqual([names for _, names in comings(deck)], [["ad"]])
        deck = deck_with([5, 5, 5, 2, 1, 0])
        self.assertEqual(comings(deck), [(0, ["ad"]), (2, ["ae"]), (4, ["af"])])

    def test_one_that_is_shut_in_beneath_a_closing(self):
        self.assertEqual(comings(SHUT), [(2, ["d"])])
        self.assertEqual(comings((("a", 3), ("b", 1), ("d", 1), ("c", 2))), [(0, ["c", "d"])])
        self.assertEqual(comings((("a", 3), ("b", 1), ("d", 1), ("c", 1))), [(0, ["d"])])

    def test_one_that_comes_home_beneath_a_closing(self):
        # Behind the step both lie beneath the closed place, at which b is home and c is not.
        deck = (("t", 3), ("a", 0), ("b", 1), ("c", 1))
        self.assertEqual(comings(deck), [(0, ["a", "b"])])
        self.assertEqual(closings(deck), [(0, 4), (1, 1)])

    def test_one_that_goes_up_and_is_not_home_yet(self):
        deck = (("a", 3), ("b", 3), ("c", 1), ("d", 0))
        self.assertEqual(comings(deck), [(0, ["c"]), (2, ["d"])])

    def test_small_decks_step_by_step(self):
        several = 0
        shut = 0
        for deck in many_decks():
            gone = GoneByHand(deck)
            told = comings(deck)
            self.assertEqual(told, comings_by_hand(deck, gone.first + gone.length))
            several += max([len(names) for _, names in told] + [0]) > 1
            shut += len(away_by_hand(deck)) > sum(len(names) for _, names in told)
        self.assertGreater(several, 20)
        self.assertGreater(shut, 20)

    def test_large_decks_step_by_step(self):
        for deck in near_decks() + far_decks():
            self.assertEqual([one for one in comings(deck) if one[0] < 600], comings_by_hand(deck, 600))

    def test_the_kinds_that_are_told(self):
        for deck in far_decks() + [PAIR, SHUT]:
            for one in comings(deck):
                self.assertEqual([type(thing) for thing in (one,) + one], [tuple, int, list])
                self.assertEqual({type(name) for name in one[1]}, {str})

    def test_no_deck(self):
        for thing in NO_DECKS:
            self.assertIs(refusal(comings, thing), NoDeck, thing)


class FarComings(unittest.TestCase):
    def test_a_card_that_comes_home_only_far_on(self):
        for cards in (3, 4, 9, 20, 30, 40):
            deck = late_deck(cards, cards - 2)
            home = 2 ** (cards - 2)
            self.assertEqual(comings(deck), [(home - 1, [deck[-1][0]])])
            self.assertEqual(settled_behind(deck), home)
            self.assertEqual(closings(deck), [(0, cards), (home, cards - 1)])
            self.assertEqual(fate(deck, deck[-2][0]), ("last", home - 1))
            for name, _ in deck[:-2] + deck[-1:]:
                self.assertEqual(fate(deck, name), ("ever",))

    def test_they_are_as_the_decks_there_tell(self):
        # None comes home twice, so where the same are away at both ends of some steps, none came home by them.
        for deck in far_decks() + late_decks(40, 173) + lively_decks(40, 174, 25, odds=0.25):
            told = comings(deck)
            steps = [step for step, _ in told]
            self.assertEqual(steps, sorted(set(steps)))
            ahead = 0
            for step, names in told:
                away = away_by_hand(deck_at(deck, step))
                home = home_by_hand(deck_at(deck, step + 1))
                self.assertEqual(names, sorted(name for name in away if name in home))
                self.assertTrue(names)
                # From the last coming home on some may be shut in, but those that are not home stay so.
                not_home = set(home_by_hand(deck_at(deck, step))) - set(home_by_hand(deck_at(deck, ahead)))
                self.assertEqual(not_home, set())
                ahead = step + 1
            self.assertEqual(settled_behind(deck), ahead)
            self.assertEqual(away_by_hand(deck_at(deck, ahead)), [])

    def test_each_one_away_comes_home_once_or_is_shut_in(self):
        for deck in far_decks() + late_decks(40, 175) + lively_decks(100, 176, 5, odds=0.4):
            home = [name for _, names in comings(deck) for name in names]
            self.assertEqual(len(set(home)), len(home))
            self.assertLessEqual(set(home), set(away_by_hand(deck)))
            settled = deck_at(deck, settled_behind(deck))
            shut = [name for name in away_by_hand(deck) if name not in home]
            beneath = [name for name, _ in settled[closed_by_hand(settled):]]
            for name in shut:
                self.assertIn(name, beneath)
                self.assertNotIn(name, home_by_hand(settled))

    def test_many_comings(self):
        told = comings(crowded_deck())
        self.assertGreater(len(told), 10)
        self.assertGreater(told[-1][0], 5 * 10 ** 8)

    def test_those_behind_some_steps_come_so_many_steps_sooner(self):
        for deck in far_decks():
            told = comings(deck)
            for step in [0, 1, 100] + [step for step, _ in told] + [step + 1 for step, _ in told]:
                later = [(at - step, names) for at, names in told if at >= step]
                self.assertEqual(comings(deck_at(deck, step)), later)


class SettledBehind(unittest.TestCase):
    def test_none_away(self):
        for deck in settled_decks():
            told = settled_behind(deck)
            self.assertEqual(told, 0)
            self.assertIs(type(told), int)

    def test_one_more_than_the_last_coming(self):
        self.assertEqual(settled_behind(THREE), 1)
        self.assertEqual(settled_behind(PAIR), 1)
        self.assertEqual(settled_behind(SHUT), 3)
        for deck in many_decks() + far_decks():
            told = comings(deck)
            self.assertEqual(settled_behind(deck), told[-1][0] + 1 if told else 0)

    def test_the_least_number_behind_which_none_is_away(self):
        for deck in many_decks():
            gone = GoneByHand(deck)
            self.assertEqual(settled_behind(deck), min(
                steps for steps in range(len(gone.decks)) if not away_by_hand(gone.decks[steps])
            ))
        for deck in far_decks() + late_decks(20, 177):
            steps = settled_behind(deck)
            self.assertEqual(away_by_hand(deck_at(deck, steps)), [])
            if steps:
                self.assertNotEqual(away_by_hand(deck_at(deck, steps - 1)), [])

    def test_no_deck(self):
        for thing in NO_DECKS:
            self.assertIs(refusal(settled_behind, thing), NoDeck, thing)


class Closings(unittest.TestCase):
    def test_the_closed_place_alone(self):
        for deck in settled_decks():
            told = closings(deck)
            self.assertEqual(told, [(0, closed_by_hand(deck))])
            self.assertIs(type(told), list)
        # A card comes home, and the deck closes no sooner.
        self.assertEqual(closings((("a", 2), ("b", 2), ("c", 1))), [(0, 3)])

    def test_once(self):
        self.assertEqual(closings(THREE), [(0, 2), (1, 1)])
        self.assertEqual(closings(PAIR), [(0, 4), (1, 1)])
        self.assertEqual(closings(deck_with([39] + [0] * 39)), [(0, 40), (1, 1)])

    def test_several_times(self):
        self.assertEqual(closings(SHUT), [(0, 5), (1, 3), (3, 1)])
        deck = deck_with([5, 5, 5, 2, 1, 0])
        self.assertEqual(closings(deck), closings_by_hand(deck, 80))

    def test_while_no_card_comes_home(self):
        self.assertNotIn(0, [step for step, _ in comings(SHUT)])
        self.assertEqual(closings(SHUT)[1], (1, 3))

    def test_small_decks_step_by_step(self):
        often = 0
        for deck in many_decks():
            gone = GoneByHand(deck)
            told = closings(deck)
            self.assertEqual(told, closings_by_hand(deck, gone.first + gone.length))
            often += len(told) > 2
        self.assertGreater(often, 20)

    def test_large_decks_step_by_step(self):
        for deck in near_decks() + far_decks():
            self.assertEqual([one for one in closings(deck) if one[0] <= 600], closings_by_hand(deck, 600))

    def test_they_are_as_the_decks_there_tell(self):
        # No place is closed and open again, so it is enough to look at both ends.
        many = 0
        for deck in far_decks() + late_decks(40, 178) + lively_decks(40, 179, 25, odds=0.25):
            told = closings(deck)
            self.assertEqual(told[0], (0, closed_by_hand(deck)))
            for (_, before), (steps, place) in zip(told, told[1:]):
                self.assertGreater(before, place)
                self.assertEqual(closed_by_hand(deck_at(deck, steps - 1)), before)
                self.assertEqual(closed_by_hand(deck_at(deck, steps)), place)
                many += steps > 10 ** 6
            for step in (settled_behind(deck), HUGE):
                self.assertEqual(closed_by_hand(deck_at(deck, step)), told[-1][1])
        self.assertGreater(many, 20)

    def test_steps_rise_and_places_fall(self):
        for deck in far_decks() + many_decks():
            told = closings(deck)
            self.assertEqual([steps for steps, _ in told], sorted({steps for steps, _ in told}))
            self.assertEqual([place for _, place in told], sorted({place for _, place in told}, reverse=True))

    def test_the_kinds_that_are_told(self):
        for deck in far_decks() + [SHUT]:
            for one in closings(deck):
                self.assertEqual([type(thing) for thing in (one,) + one], [tuple, int, int])

    def test_no_deck(self):
        for thing in NO_DECKS:
            self.assertIs(refusal(closings, thing), NoDeck, thing)


class Fates(unittest.TestCase):
    def test_each_fate(self):
        self.assertEqual([fate(THREE, name) for name in "abc"], [("last", 0), ("ever",), ("never",)])
        told = [fate(SHUT, name) for name in "abcde"]
        self.assertEqual(told, [("last", 0), ("last", 1), ("last", 2), ("ever",), ("never",)])

    def test_one_card(self):
        for depth in (0, 1, HUGE):
            self.assertEqual(fate([["abc", depth]], "abc"), ("ever",))

    def test_settled_decks(self):
        for deck in settled_decks():
            closed = closed_by_hand(deck)
            for place, (name, _) in enumerate(deck):
                self.assertEqual(fate(deck, name), ("ever",) if place < closed else ("never",))

    def test_last_seen_after_having_been_seen_before(self):
        often = 0
        for deck in many_decks():
            gone = GoneByHand(deck)
            for name, _ in deck:
                self.assertEqual(fate(deck, name), fate_by_hand(gone, name))
                often += gone.names.count(name) > 2 and fate(deck, name)[0] == "last"
        self.assertGreater(often, 20)

    def test_far_fates_by_how_often_and_when_they_are_seen(self):
        told = set()
        for deck in far_decks() + late_decks(20, 180) + lively_decks(20, 181, 25, odds=0.25):
            for name, _ in deck:
                one = fate(deck, name)
                told.add(one[0])
                often = how_often(deck, HUGE * HUGE, name)
                if one == ("ever",):
                    self.assertIsNotNone(when_seen(deck, name, HUGE * HUGE))
                elif one == ("never",):
                    self.assertEqual(often, 0)
                    self.assertIsNone(when_seen(deck, name, 0))
                else:
                    self.assertEqual(when_seen(deck, name, often - 1), one[1])
                    self.assertIsNone(when_seen(deck, name, often))
                    self.assertEqual(seen_at(deck, one[1]), name)
                    self.assertEqual(how_often(deck, one[1] + 1, name), often)
        self.assertEqual(told, {"ever", "last", "never"})

    def test_behind_some_steps(self):
        for deck in far_decks()[::3] + many_decks()[::9]:
            for steps in (1, 7, 10 ** 9):
                behind = deck_at(deck, steps)
                for name, _ in deck:
                    one = fate(deck, name)
                    if one[0] == "last":
                        one = ("last", one[1] - steps) if one[1] >= steps else ("never",)
                    self.assertEqual(fate(behind, name), one)

    def test_a_name_that_is_seen_once_again_and_never_more(self):
        deck = late_deck(40, 37)
        for name, _ in deck[37:39]:
            often = how_often(deck, HUGE, name)
            self.assertEqual(fate(deck, name), ("last", when_seen(deck, name, often - 1)))
            self.assertGreater(fate(deck, name)[1], 10 ** 11)

    def test_the_kinds_that_are_told(self):
        for name in "abc":
            self.assertIs(type(fate(THREE, name)), tuple)
        self.assertEqual([type(thing) for thing in fate(THREE, "a")], [str, int])

    def test_no_name(self):
        for name in NO_NAMES + ["d", "aa", "ab", "abc"]:
            with self.subTest(name=name):
                self.assertIs(refusal(fate, THREE, name), NoName)

    def test_no_deck_goes_first(self):
        for thing in NO_DECKS:
            for name in ("a", "x", "q", "", None, 0):
                self.assertIs(refusal(fate, thing, name), NoDeck, thing)


class HomeStaysHome(unittest.TestCase):
    """Promise 4: cards that are home stay home; what comes home at a step stays home."""

    def test_near_and_far(self):
        for deck in far_decks() + [rising_deck(40), plateau_deck(12)]:
            home = set(home_by_hand(deck))
            for step, names in comings(deck):
                home |= set(names)
                for later in (1, 2, 1000, HUGE):
                    self.assertLessEqual(home, set(home_by_hand(deck_at(deck, step + later))))
                    self.assertNotEqual(set(names) & set(away_by_hand(deck_at(deck, step))), set())

    def test_sliding_by_hand(self):
        for deck in near_decks():
            for step, names in comings(deck):
                if step < 300:
                    behind = gone_by_hand(deck, step + 1)[1]
                    self.assertLessEqual(set(names), set(home_by_hand(behind)))


class ListsAndTuples(unittest.TestCase):
    """Promise 2: lists and tuples are taken alike, down to the cards."""

    def test_each_form_is_told_the_same(self):
        for form in all_forms(SHUT):
            with self.subTest(form=form):
                self.assertEqual(comings(form), [(2, ["d"])])
                self.assertEqual(settled_behind(form), 3)
                self.assertEqual(closings(form), [(0, 5), (1, 3), (3, 1)])
                self.assertEqual(fate(form, "b"), ("last", 1))


if __name__ == "__main__":
    unittest.main()
