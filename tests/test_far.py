"""Promises 15 and 16: what is seen however far, how often and when; 4, as far as it tells of far steps."""

import unittest

from slideback.errors import NoDeck, NoName, NoNumber, NoStep
from slideback.far import deck_at, how_often, seen_at, when_seen
from tests.common import (
    HUGE, NO_COUNTS, NO_DECKS, NO_NAMES, GoneByHand, all_forms, away_by_hand, chance_decks, closed_by_hand,
    deck_with, far_decks, far_steps, gone_by_hand, is_told_deck, late_deck, late_decks, lively_decks, near_decks,
    reaches_by_hand, refusal, rising_deck, slid_by_hand, small_decks,
)

# a is seen once, then b again and again; c lies beneath the closing.
THREE = (("a", 1), ("b", 0), ("c", 9))
FAR = (0, 1, 2, 3, 5, 8, 64, 1000, 10 ** 6 + 1, 10 ** 18 - 7, HUGE - 1, HUGE, HUGE * HUGE + 12345)


def name_of_rising(cards, step):
    """The name that a rising deck shows: the second card at each second step, the third at each fourth and so on."""
    halved = 0
    number = step + 1
    while number % 2 == 0 and halved < cards - 2:
        number //= 2
        halved += 1
    # The last two cards take turns.
    if halved == cards - 2 and number % 2 == 0:
        halved += 1
    return rising_deck(cards)[halved][0]


class NearSteps(unittest.TestCase):
    def test_no_step(self):
        for deck in near_decks() + far_decks() + [deck_with([0]), deck_with([39] * 40), THREE]:
            self.assertEqual(seen_at(deck, 0), deck[0][0])
            self.assertEqual(deck_at(deck, 0), deck)

    def test_few_steps(self):
        self.assertEqual([seen_at(THREE, step) for step in range(4)], ["a", "b", "b", "b"])
        self.assertEqual(deck_at(THREE, 1), (("b", 0), ("a", 1), ("c", 9)))
        self.assertEqual(deck_at(THREE, 2), (("b", 0), ("a", 1), ("c", 9)))
        turning = (("a", 1), ("b", 2), ("c", 2))
        self.assertEqual([seen_at(turning, step) for step in range(8)], list("abacabac"))
        self.assertEqual(deck_at(turning, 3), (("c", 2), ("a", 1), ("b", 2)))
        self.assertEqual(deck_at([["a", 0]], 7), (("a", 0),))

    def test_all_small_decks(self):
        for cards, depths in ((1, 3), (2, 4), (3, 5), (4, 5)):
            for deck in small_decks(cards, depths):
                now = deck
                for step in range(24):
                    self.assertEqual(seen_at(deck, step), now[0][0])
                    self.assertEqual(deck_at(deck, step), now)
                    now = slid_by_hand(now)

    def test_some_hundreds(self):
        for deck in near_decks():
            now = deck
            for step in range(500):
                if step < 60 or step % 7 == 0:
                    self.assertEqual(seen_at(deck, step), now[0][0])
                    self.assertEqual(deck_at(deck, step), now)
                now = slid_by_hand(now)

    def test_some_thousands(self):
        for deck in far_decks():
            for steps in (1999, 5000):
                behind = gone_by_hand(deck, steps)[1]
                self.assertEqual(deck_at(deck, steps), behind)
                self.assertEqual(seen_at(deck, steps), behind[0][0])

    def test_depths_as_they_were_handed_in(self):
        deck = (("a", 40), ("b", HUGE), ("c", 2), ("d", 1))
        for step in (0, 1, 2, 3, 50, 51, 52):
            behind = gone_by_hand(deck, step)[1]
            self.assertEqual(deck_at(deck, step), behind)
            self.assertEqual(sorted(deck_at(deck, step)), sorted(deck))
        self.assertEqual(sorted(deck_at(deck, HUGE)), sorted(deck))

    def test_decks_are_tuples_all_through(self):
        for form in all_forms(THREE):
            for steps in (0, 1, 2, 9, HUGE):
                self.assertTrue(is_told_deck(deck_at(form, steps)))


class FarStepsOfSmallDecks(unittest.TestCase):
    """They come round soon, so each of their far steps is like a near one."""

    def test_all_small_decks(self):
        for cards, depths in ((1, 2), (2, 3), (3, 4), (4, 4)):
            for deck in small_decks(cards, depths):
                gone = GoneByHand(deck)
                for step in FAR:
                    self.assertEqual(deck_at(deck, step), gone.behind(step))
                    self.assertEqual(seen_at(deck, step), gone.behind(step)[0][0])

    def test_decks_of_five_to_eight_cards(self):
        for deck in lively_decks(80, 150, 5, 8) + chance_decks(40, 151, 8) + lively_decks(60, 152, 5, 8, odds=0.5):
            gone = GoneByHand(deck)
            for step in FAR:
                self.assertEqual(deck_at(deck, step), gone.behind(step))
                self.assertEqual(seen_at(deck, step), gone.behind(step)[0][0])
                for name, _ in deck:
                    self.assertEqual(how_often(deck, step, name), gone.often(step, name))
                    self.assertEqual(when_seen(deck, name, step), gone.when(name, step))


class FarStepsOfLargeDecks(unittest.TestCase):
    def test_cards_that_go_beneath_all(self):
        for cards in (1, 2, 7, 39, 40):
            deck = deck_with([HUGE] * cards)
            for step in FAR:
                at = step % cards
                self.assertEqual(seen_at(deck, step), deck[at][0])
                self.assertEqual(deck_at(deck, step), deck[at:] + deck[:at])
                for place, (name, _) in enumerate(deck):
                    self.assertEqual(how_often(deck, step, name), (step + cards - 1 - place) // cards)
                    self.assertEqual(when_seen(deck, name, step), step * cards + place)

    def test_a_top_that_stays(self):
        deck = deck_with([0] + [39] * 39)
        for step in FAR:
            self.assertEqual(seen_at(deck, step), "aa")
            self.assertEqual(deck_at(deck, step), deck)
            self.assertEqual(how_often(deck, step, "aa"), step)
            self.assertEqual(when_seen(deck, "aa", step), step)

    def test_a_rising_deck(self):
        for cards in (2, 3, 5, 8):
            names = [name_of_rising(cards, step) for step in range(300)]
            self.assertEqual(names, gone_by_hand(rising_deck(cards), 300)[0])
        for cards in (8, 20, 39, 40):
            deck = rising_deck(cards)
            bounds = [2 ** 37 - 1, 2 ** 38 - 1, 2 ** 38, 2 ** 39 - 1, 3 * 2 ** 38 - 1]
            for step in list(FAR) + bounds + far_steps(40, 152):
                self.assertEqual(seen_at(deck, step), name_of_rising(cards, step))
            for number in FAR:
                for place, (name, _) in enumerate(deck[:-1]):
                    step = (2 * number + 1) * 2 ** place - 1
                    self.assertEqual(when_seen(deck, name, number), step)
                    self.assertEqual(how_often(deck, step, name), number)
                    self.assertEqual(how_often(deck, step + 1, name), number + 1)
                self.assertEqual(when_seen(deck, deck[-1][0], number), (number + 1) * 2 ** (cards - 1) - 1)

    def test_a_rising_deck_comes_round(self):
        for cards in (2, 10, 25, 40):
            deck = rising_deck(cards)
            self.assertEqual(deck_at(deck, 2 ** (cards - 1)), deck)
            self.assertEqual(deck_at(deck, 2 ** (cards - 1) * HUGE), deck)
            halved = deck_at(deck, 2 ** (cards - 2))
            self.assertEqual(halved, deck[:-2] + (deck[-1], deck[-2]))

    def test_a_card_that_comes_home_only_far_on(self):
        for cards in (4, 5, 9, 12, 30, 40):
            deck = late_deck(cards, cards - 2)
            home = 2 ** (cards - 2)
            if cards < 13:
                self.assertEqual(deck_at(deck, home), gone_by_hand(deck, home)[1])
                self.assertEqual(deck_at(deck, home - 1), gone_by_hand(deck, home - 1)[1])
            # The last but one goes beneath it, and is shut in.
            shut = deck[cards - 2][0]
            late = deck[cards - 1][0]
            behind = deck[:-2] + (deck[-1], deck[-2])
            self.assertEqual(deck_at(deck, home), behind)
            self.assertEqual(deck_at(deck, home - 1)[0], deck[-2])
            self.assertEqual(deck_at(deck, home - 1)[-1], deck[-1])
            self.assertEqual(seen_at(deck, home - 1), shut)
            self.assertEqual([how_often(deck, step, shut) for step in (0, home - 1, home, HUGE)], [0, 0, 1, 1])
            self.assertEqual(when_seen(deck, shut, 0), home - 1)
            self.assertEqual([when_seen(deck, shut, number) for number in (1, 2, HUGE)], [None] * 3)
            self.assertEqual([how_often(deck, step, late) for step in (0, home, 2 * home - 1, 2 * home)], [0, 0, 0, 1])
            for number in FAR:
                self.assertEqual(when_seen(deck, late, number), home + (number + 1) * home - 1)
                self.assertEqual(seen_at(deck, home + number), seen_at(behind, number))
                self.assertEqual(deck_at(deck, home + number), deck_at(behind, number))


class StepsBehindSteps(unittest.TestCase):
    """Going on by two numbers of steps, one behind the other, is going on by both together."""

    def pairs(self):
        """Two numbers of steps each, near and far."""
        steps = far_steps(14, 153) + [0, 1, 17, 400]
        return list(zip(steps, reversed(steps)))

    def test_decks(self):
        for deck in near_decks() + far_decks():
            for first, then in self.pairs():
                behind = deck_at(deck, first)
                self.assertEqual(deck_at(deck, first + then), deck_at(behind, then))
                self.assertEqual(seen_at(deck, first + then), seen_at(behind, then))

    def test_one_step_more(self):
        for deck in near_decks() + far_decks():
            for step in far_steps(12, 154):
                self.assertEqual(deck_at(deck, step + 1), slid_by_hand(deck_at(deck, step)))
                self.assertEqual(deck_at(deck, step + 1), deck_at(slid_by_hand(deck), step))
                self.assertEqual(seen_at(deck, step), deck_at(deck, step)[0][0])

    def test_from_near_steps_to_far_ones(self):
        for deck in far_decks():
            steps = 1024
            self.assertEqual(deck_at(deck, steps), gone_by_hand(deck, steps)[1])
            while steps < HUGE:
                self.assertEqual(deck_at(deck_at(deck, steps), steps), deck_at(deck, 2 * steps))
                steps *= 2

    def test_how_often(self):
        for deck in far_decks():
            for first, then in self.pairs()[::3]:
                behind = deck_at(deck, first)
                for name, _ in deck[::6]:
                    both = how_often(deck, first, name) + how_often(behind, then, name)
                    self.assertEqual(how_often(deck, first + then, name), both)

    def test_when_seen(self):
        for deck in far_decks():
            for first in (1, 30, 10 ** 7, 10 ** 15):
                behind = deck_at(deck, first)
                for name, _ in deck[::6]:
                    often = how_often(deck, first, name)
                    for number in (0, 1, 1000, HUGE):
                        again = when_seen(behind, name, number)
                        step = None if again is None else first + again
                        self.assertEqual(when_seen(deck, name, often + number), step)


class Steps(unittest.TestCase):
    """What is none from 0 on is refused."""

    def test_no_step(self):
        for deck in (THREE, [["a", 0]], rising_deck(40), late_deck(40, 3)):
            for thing in NO_COUNTS:
                with self.subTest(thing=thing):
                    self.assertIs(refusal(seen_at, deck, thing), NoStep)
                    self.assertIs(refusal(deck_at, deck, thing), NoStep)
                    self.assertIs(refusal(how_often, deck, thing, deck[0][0]), NoStep)

    def test_steps_are_refused_ahead_of_names(self):
        for thing in NO_COUNTS:
            for name in ["z", "aa"] + NO_NAMES:
                self.assertIs(refusal(how_often, THREE, thing, name), NoStep)

    def test_no_deck_goes_first(self):
        for thing in NO_DECKS:
            for step in (0, 1, -1, True, None):
                self.assertIs(refusal(seen_at, thing, step), NoDeck, thing)
                self.assertIs(refusal(deck_at, thing, step), NoDeck, thing)
                for name in ("a", "q", None):
                    self.assertIs(refusal(how_often, thing, step, name), NoDeck, thing)


class HowOften(unittest.TestCase):
    def test_no_steps(self):
        for deck in near_decks()[:20] + far_decks()[:8]:
            self.assertEqual([how_often(deck, 0, name) for name, _ in deck], [0] * len(deck))

    def test_few_steps(self):
        self.assertEqual([how_often(THREE, steps, "a") for steps in range(4)], [0, 1, 1, 1])
        self.assertEqual([how_often(THREE, steps, "b") for steps in range(4)], [0, 0, 1, 2])
        self.assertEqual([how_often(THREE, steps, "c") for steps in range(4)], [0, 0, 0, 0])
        self.assertEqual([how_often(THREE, HUGE, name) for name in "abc"], [1, HUGE - 1, 0])

    def test_near_steps(self):
        for deck in near_decks():
            names = gone_by_hand(deck, 400)[0]
            for steps in list(range(12)) + [50, 99, 399, 400]:
                for name, _ in deck:
                    self.assertEqual(how_often(deck, steps, name), names[:steps].count(name))

    def test_all_small_decks(self):
        for cards, depths in ((1, 2), (2, 3), (3, 4), (4, 4)):
            for deck in small_decks(cards, depths):
                gone = GoneByHand(deck)
                for steps in FAR:
                    for name, _ in deck:
                        self.assertEqual(how_often(deck, steps, name), gone.often(steps, name))

    def test_each_step_sees_one_name(self):
        for deck in far_decks():
            for steps in far_steps(2, 160) + [HUGE]:
                self.assertEqual(sum(how_often(deck, steps, name) for name, _ in deck), steps)
                seen = seen_at(deck, steps)
                for name in (seen, deck[0][0], deck[-1][0]):
                    more = how_often(deck, steps + 1, name) - how_often(deck, steps, name)
                    self.assertEqual(more, int(name == seen))

    def test_no_name(self):
        for name in NO_NAMES + ["d", "aa", "ab", "abc"]:
            for steps in (0, 3, HUGE):
                self.assertIs(refusal(how_often, THREE, steps, name), NoName)


class WhenSeen(unittest.TestCase):
    def test_the_first_time(self):
        self.assertEqual([when_seen(THREE, name, 0) for name in "abc"], [0, 1, None])
        for deck in near_decks():
            names = gone_by_hand(deck, 1000)[0]
            for name in set(names):
                self.assertEqual(when_seen(deck, name, 0), names.index(name))

    def test_near_times(self):
        self.assertEqual([when_seen(THREE, "b", number) for number in range(4)], [1, 2, 3, 4])
        self.assertEqual([when_seen((("a", 1), ("b", 2), ("c", 2)), "a", number) for number in range(4)], [0, 2, 4, 6])
        for deck in near_decks():
            names = gone_by_hand(deck, 500)[0]
            for name, _ in deck:
                steps = [step for step, seen in enumerate(names) if seen == name]
                for number in range(0, len(steps), 1 + len(steps) // 9):
                    self.assertEqual(when_seen(deck, name, number), steps[number])
                later = when_seen(deck, name, len(steps))
                self.assertTrue(later is None or later >= 500)

    def test_all_small_decks(self):
        for cards, depths in ((1, 2), (2, 3), (3, 4), (4, 4)):
            for deck in small_decks(cards, depths):
                gone = GoneByHand(deck)
                for number in FAR:
                    for name, _ in deck:
                        self.assertEqual(when_seen(deck, name, number), gone.when(name, number))

    def test_the_so_manieth_sight_of_far_decks(self):
        for deck in far_decks():
            for number in far_steps(2, 161) + [0, 1, 2]:
                for name, _ in deck[::5]:
                    step = when_seen(deck, name, number)
                    if step is not None:
                        self.assertEqual(seen_at(deck, step), name)
                        self.assertEqual(how_often(deck, step, name), number)

    def test_the_sight_of_a_far_step(self):
        for deck in far_decks():
            for step in far_steps(20, 162):
                name = seen_at(deck, step)
                self.assertEqual(when_seen(deck, name, how_often(deck, step, name)), step)

    def test_a_name_beneath_the_closed_place(self):
        for deck in near_decks() + [deck_with([0] * 40), deck_with([38] * 40)]:
            for name, _ in deck[closed_by_hand(deck):]:
                for number in (0, 1, 9, HUGE):
                    self.assertIsNone(when_seen(deck, name, number))

    def test_a_name_beneath_a_closing(self):
        # The place of c is closed behind one step, and it is never seen.
        deck = (("a", 3), ("b", 1), ("d", 1), ("c", 2))
        self.assertEqual(gone_by_hand(deck, 6)[0], list("abdbdb"))
        for number in (0, 1, HUGE):
            self.assertIsNone(when_seen(deck, "c", number))

    def test_a_name_that_is_seen_some_times_and_never_again(self):
        self.assertEqual([when_seen(THREE, "a", number) for number in (0, 1, 2, HUGE)], [0, None, None, None])
        found = 0
        for deck in lively_decks(120, 163, 3, 9):
            gone = GoneByHand(deck)
            for name, _ in deck:
                often = gone.names.count(name)
                if often < 2 or name in gone.names[gone.first:]:
                    continue
                found += 1
                last = len(gone.names) - 1 - gone.names[::-1].index(name)
                self.assertEqual(when_seen(deck, name, often - 1), last)
                for number in (often, often + 1, HUGE):
                    self.assertIsNone(when_seen(deck, name, number))
                self.assertEqual(how_often(deck, HUGE, name), often)
        self.assertGreater(found, 9)

    def test_never_so_often_in_far_decks(self):
        for deck in late_decks(20, 164):
            for name, _ in deck:
                often = how_often(deck, 10 ** 40, name)
                if when_seen(deck, name, often) is None:
                    self.assertIsNone(when_seen(deck, name, often + HUGE))
                    self.assertEqual(how_often(deck, 10 ** 50, name), often)
                    if often:
                        self.assertEqual(seen_at(deck, when_seen(deck, name, often - 1)), name)
                else:
                    self.assertGreaterEqual(when_seen(deck, name, often), 10 ** 40)

    def test_no_name(self):
        for name in NO_NAMES + ["d", "aa", "ab", "abc"]:
            for number in (0, 3, HUGE):
                self.assertIs(refusal(when_seen, THREE, name, number), NoName)

    def test_no_number(self):
        for deck in (THREE, [["a", 0]], rising_deck(40)):
            for number in NO_COUNTS:
                with self.subTest(number=number):
                    self.assertIs(refusal(when_seen, deck, deck[0][0], number), NoNumber)
                    self.assertIs(refusal(when_seen, deck, deck[-1][0], number), NoNumber)

    def test_names_are_refused_ahead_of_numbers(self):
        for name in NO_NAMES + ["d", "aa"]:
            for number in NO_COUNTS:
                self.assertIs(refusal(when_seen, THREE, name, number), NoName)

    def test_no_deck_goes_first(self):
        for thing in NO_DECKS:
            for name in ("a", "q", None):
                for number in (0, 1, -1, True, None):
                    self.assertIs(refusal(when_seen, thing, name, number), NoDeck, thing)


class HomeStaysHome(unittest.TestCase):
    """Promise 4: a card that is home stays home, and those away come home or are shut in."""

    def test_cards_home_and_away(self):
        for deck in far_decks():
            behind = deck
            home = set()
            for step in sorted(far_steps(25, 165)):
                behind = deck_at(deck, step)
                reaches = reaches_by_hand(behind)
                now = {name for place, (name, _) in enumerate(behind) if place <= reaches[place]}
                self.assertLessEqual(home, now)
                home = now
            self.assertEqual(away_by_hand(behind), [])

    def test_what_lies_at_the_closed_place_and_beneath_stays(self):
        for deck in near_decks() + far_decks():
            for step in far_steps(5, 166):
                behind = deck_at(deck, step)
                closed = closed_by_hand(behind)
                self.assertLessEqual(closed, closed_by_hand(deck))
                for later in (1, 10 ** 9 + 7, HUGE):
                    self.assertEqual(deck_at(deck, step + later)[closed:], behind[closed:])


class ListsAndTuples(unittest.TestCase):
    """Promise 2: lists and tuples are taken alike, down to the cards."""

    def test_each_form_is_told_the_same(self):
        deck = (("a", 2), ("b", 3), ("c", 9), ("d", 1))
        for form in all_forms(deck):
            with self.subTest(form=form):
                for step in FAR:
                    self.assertEqual(seen_at(form, step), seen_at(deck, step))
                    self.assertEqual(deck_at(form, step), deck_at(deck, step))
                    for name in "abcd":
                        self.assertEqual(how_often(form, step, name), how_often(deck, step, name))
                        self.assertEqual(when_seen(form, name, step), when_seen(deck, name, step))


if __name__ == "__main__":
    unittest.main()
