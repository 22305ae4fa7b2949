"""Promises 25 and 26: papers of steps, and papers of never."""

import unittest

from slideback.comings import closings, fate
from slideback.errors import NoDeck, NoName, NoStep, NotSettled
from slideback.far import deck_at, seen_at, when_seen
from slideback.papers import never_paper, never_shows, paper_of, paper_shows
from tests.common import (
    HUGE, NO_COUNTS, NO_DECKS, NO_NAMES, GoneByHand, all_forms, away_by_hand, chance_decks, closed_by_hand,
    crowded_deck, deck_with, far_decks, far_steps, late_deck, late_decks, lively_decks, pattern_by_hand, plateau_deck,
    refusal, rising_deck, settled_decks, small_decks,
)

# Its rings are of 1, 2, 3, 3 and 2 cards.
FIVE = (("e", 7), ("a", 2), ("d", 3), ("b", 3), ("c", 9))
# Behind one step b is seen for ever.
THREE = (("a", 1), ("b", 0), ("c", 9))
SHUT = (("a", 4), ("b", 2), ("c", 2), ("d", 0), ("e", 1))

# What is no paper of any step and no paper of never.
OTHER_THINGS = [
    None, True, False, 0, 1, -1, HUGE, "", "paper", b"", 1.5, {}, {"a": 1}, {1, 2}, range(3), (), [], [[]], [()],
    [None], [0], [[0], [0], [0]], [[0, 0]], [(0, 0, 0, 0)], [{0: 1, 1: 2, 2: 3}], ["abc"], [{0, 1, 2}], "000", [1.0],
    [(None, None, None)], [("0", "0", "0")], [[[0], [0], [0]]], [((0, 0, 0),)], ((0, 0, 0), None), (0, 0, 0), [0, 0, 0],
    (None, None), ("0", "1"), [[0], [1]], (0,), (0.0, 1.0), [0, None], {0: 1, 1: 2}, (lambda: 1), object(),
]


def paper_by_hand(deck, step):
    """The paper of a small step, going around each ring one by one."""
    paper = []
    index = step
    for level in range(closed_by_hand(deck)):
        row = pattern_by_hand(deck, level)
        turns, phase, holes = 0, 0, 0
        for _ in range(index):
            holes += row[phase] is None
            phase += 1
            if phase == len(row):
                turns, phase = turns + 1, 0
        paper.append((index, turns, phase))
        if row[phase] is not None:
            return paper, row[phase]
        index = holes
    raise AssertionError("the last level has own cards alone")


def as_papers(paper):
    """The paper in each mixture of lists and tuples."""
    mixed = [list(row) if at % 2 else tuple(row) for at, row in enumerate(paper)]
    rows = [list(row) for row in paper]
    return [paper, tuple(paper), rows, tuple(rows), mixed, tuple(mixed)]


def spoiled_papers(paper):
    """Papers that are mostly like one."""
    told = [paper[:-1], paper[1:], paper + paper[-1:], paper[:1] + paper, paper + [(0, 0, 0)], paper[::-1], paper * 2]
    for at, row in enumerate(paper):
        ahead, behind = paper[:at], paper[at + 1:]
        told += [ahead + behind, ahead + [row, row] + behind, ahead + [None] + behind, ahead + [()] + behind]
        told += [ahead + [row[:2]] + behind, ahead + [row + (0,)] + behind, ahead + [row[::-1]] + behind]
        told += [ahead + [row[1:] + row[:1]] + behind, ahead + behind[:1] + [row] + behind[1:]]
        for place, number in enumerate(row):
            others = [number + 1, number - 1, -number, number + len(paper), number - 7]
            others = [other for other in others if other != number]
            for other in others + [float(number), str(number), [number], None, bool(number), (number,)]:
                told.append(ahead + [row[:place] + (other,) + row[place + 1:]] + behind)
    return [one for one in told if type(one) is not list or not is_same(one, paper)]


def is_same(one, other):
    """Whether two papers are the same, kinds of their numbers too."""
    return repr([tuple(row) if isinstance(row, (list, tuple)) else row for row in one]) == repr(other)


class PaperOf(unittest.TestCase):
    def test_few_cards(self):
        self.assertEqual(paper_of([["a", 4]], 7), [(7, 7, 0)])
        turning = (("a", 1), ("b", 2), ("c", 2))
        self.assertEqual(paper_of(turning, 0), [(0, 0, 0), (0, 0, 0)])
        self.assertEqual(paper_of(turning, 1), [(1, 1, 0), (1, 0, 1), (0, 0, 0)])
        self.assertEqual(paper_of(turning, 3), [(3, 3, 0), (3, 1, 1), (1, 0, 1)])
        self.assertEqual(paper_of(turning, 6), [(6, 6, 0), (6, 3, 0)])
        self.assertEqual(paper_of(FIVE, 5), [(5, 5, 0), (5, 2, 1), (5, 1, 2), (3, 1, 0), (1, 0, 1)])

    def test_decks_that_are_closed_early(self):
        for step in (0, 1, 2, HUGE):
            self.assertEqual(paper_of(deck_with(range(40)), step), [(step, step, 0)])
            self.assertEqual(paper_of((("a", 0), ("b", 0), ("c", 1)), step), [(step, step, 0)])
        self.assertEqual(paper_of((("a", 1), ("b", 1), ("c", 0), ("d", 9)), 3), [(3, 3, 0), (3, 1, 1)])

    def test_near_steps_row_by_row(self):
        for deck in settled_decks()[::2] + [plateau_deck(12), FIVE]:
            for step in list(range(20)) + [60, 199]:
                self.assertEqual(paper_of(deck, step), paper_by_hand(deck, step)[0])

    def test_all_small_decks(self):
        for deck in small_decks(4, 4) + small_decks(3, 4) + small_decks(2, 3):
            if not away_by_hand(deck):
                for step in range(14):
                    paper, name = paper_by_hand(deck, step)
                    self.assertEqual(paper_of(deck, step), paper)
                    self.assertIs(paper_shows(deck, step, name, paper), True)

    def check_row_by_row(self, deck, step):
        """Follow a paper from row to row."""
        due = step
        paper = paper_of(deck, step)
        for level, (index, turns, phase) in enumerate(paper):
            row = pattern_by_hand(deck, level)
            self.assertEqual(index, due)
            self.assertEqual(index, turns * len(row) + phase)
            self.assertTrue(0 <= phase < len(row))
            if level == len(paper) - 1:
                self.assertEqual(row[phase], seen_at(deck, step))
            else:
                self.assertIsNone(row[phase])
            due = turns * row.count(None) + row[:phase].count(None)

    def test_far_steps_row_by_row(self):
        for deck in settled_decks()[::4] + [plateau_deck(12), plateau_deck(39), rising_deck(40)]:
            for step in far_steps(6, 270) + [HUGE, HUGE * HUGE]:
                self.check_row_by_row(deck, step)

    def test_as_far_as_it_goes(self):
        deck = rising_deck(40)
        self.assertEqual(len(paper_of(deck, 0)), 2)
        self.assertEqual(len(paper_of(deck, 2 ** 38 - 1)), 40)
        self.assertEqual(len(paper_of(deck, 2 ** 39 - 1)), 40)
        self.assertEqual(paper_of(deck, 2 ** 39 - 1)[-1], (1, 0, 1))

    def test_decks_that_were_settled_only_far_on(self):
        for deck in far_decks() + [late_deck(40, 38)]:
            settled = deck_at(deck, 10 ** 16)
            for step in far_steps(3, 271):
                self.check_row_by_row(settled, step)
                self.assertIs(paper_shows(settled, step, seen_at(deck, 10 ** 16 + step), paper_of(settled, step)), True)

    def test_lists_of_tuples(self):
        for form in all_forms(FIVE):
            told = paper_of(form, 5)
            self.assertIs(type(told), list)
            self.assertEqual({type(row) for row in told}, {tuple})
            self.assertEqual({type(number) for row in told for number in row}, {int})
            self.assertEqual(told, paper_of(FIVE, 5))

    def test_not_settled(self):
        for deck in chance_decks(60, 272) + lively_decks(60, 273) + small_decks(3, 4):
            self.assertIs(refusal(paper_of, deck, 3), NotSettled if away_by_hand(deck) else None)

    def test_no_step(self):
        for thing in NO_COUNTS:
            with self.subTest(thing=thing):
                self.assertIs(refusal(paper_of, FIVE, thing), NoStep)
                self.assertIs(refusal(paper_of, [["a", 0]], thing), NoStep)

    def test_not_settled_goes_ahead_of_no_step(self):
        for thing in NO_COUNTS:
            self.assertIs(refusal(paper_of, THREE, thing), NotSettled)

    def test_no_deck_goes_first(self):
        for thing in NO_DECKS:
            for step in (0, 1, -1, True, None):
                self.assertIs(refusal(paper_of, thing, step), NoDeck, thing)


class PaperShows(unittest.TestCase):
    def test_the_very_paper(self):
        for deck in settled_decks()[::5] + [FIVE, plateau_deck(12), [["a", 3]]]:
            for step in far_steps(3, 274) + [0, 1, 2, 5, HUGE]:
                for paper in as_papers(paper_of(deck, step)):
                    told = paper_shows(deck, step, seen_at(deck, step), paper)
                    self.assertIs(told, True)

    def test_another_name(self):
        for deck in (FIVE, rising_deck(12), deck_with(range(9))):
            for step in (0, 1, 2, 5, 1000, HUGE):
                paper = paper_of(deck, step)
                for name, _ in deck:
                    self.assertIs(paper_shows(deck, step, name, paper), name == seen_at(deck, step))

    def test_the_paper_of_another_step(self):
        for step in range(30):
            for other in range(30):
                told = paper_shows(FIVE, step, seen_at(FIVE, step), paper_of(FIVE, other))
                self.assertIs(told, step == other)

    def test_papers_that_are_mostly_like_it(self):
        for deck in (FIVE, rising_deck(9), plateau_deck(12), deck_with(range(5)), (("a", 1), ("b", 2), ("c", 2))):
            for step in (0, 1, 2, 5, 6, 10 ** 6 + 1, 10 ** 9 + 7):
                paper = paper_of(deck, step)
                name = seen_at(deck, step)
                self.assertIs(paper_shows(deck, step, name, paper), True)
                for other in spoiled_papers(paper):
                    self.assertIs(paper_shows(deck, step, name, other), False, other)
                    if isinstance(other, list):
                        self.assertIs(paper_shows(deck, step, name, tuple(other)), False, other)

    def test_truths_in_the_place_of_numbers(self):
        deck = (("a", 1), ("b", 2), ("c", 2))
        paper = paper_of(deck, 1)
        self.assertEqual(paper, [(1, 1, 0), (1, 0, 1), (0, 0, 0)])
        for at in range(3):
            for place in range(3):
                row = list(paper[at])
                row[place] = bool(row[place])
                self.assertEqual(paper, paper[:at] + [tuple(row)] + paper[at + 1:])
                self.assertIs(paper_shows(deck, 1, "b", paper[:at] + [tuple(row)] + paper[at + 1:]), False)

    def test_floats_in_the_place_of_numbers(self):
        self.assertIs(paper_shows([["a", 0]], 0, "a", [(0, 0, 0)]), True)
        for row in ((0.0, 0, 0), (0, 0.0, 0), (0, 0, 0.0), (False, 0, 0), (0, False, 0), (0, 0, False)):
            self.assertIs(paper_shows([["a", 0]], 0, "a", [row]), False)

    def test_other_things_altogether(self):
        for deck in (FIVE, (("a", 1), ("b", 1))):
            for step in (0, 1, 7):
                for thing in OTHER_THINGS:
                    self.assertIs(paper_shows(deck, step, seen_at(deck, step), thing), False, thing)
                    self.assertIs(paper_shows(deck, step, deck[-1][0], thing), False, thing)

    def test_refusals_in_their_order(self):
        for paper in (paper_of(FIVE, 5), None, []):
            for thing in NO_COUNTS:
                for name in ("a", "z", None):
                    self.assertIs(refusal(paper_shows, THREE, thing, name, paper), NotSettled)
                    self.assertIs(refusal(paper_shows, FIVE, thing, name, paper), NoStep)
            for name in NO_NAMES + ["z", "aa", "ab"]:
                self.assertIs(refusal(paper_shows, THREE, 5, name, paper), NotSettled)
                self.assertIs(refusal(paper_shows, FIVE, 5, name, paper), NoName)

    def test_no_deck_goes_first(self):
        for thing in NO_DECKS:
            for step in (0, -1, None):
                for name in ("a", "q", None):
                    self.assertIs(refusal(paper_shows, thing, step, name, [(0, 0, 0)]), NoDeck, thing)


class NeverPaper(unittest.TestCase):
    def test_few_cards(self):
        self.assertEqual([never_paper(THREE, name) for name in "abc"], [(1, 1), None, (0, 2)])
        self.assertEqual([never_paper(SHUT, name) for name in "abcde"], [(1, 3), (3, 1), (3, 1), None, (1, 3)])
        self.assertIsNone(never_paper([["a", 4]], "a"))

    def test_settled_decks(self):
        for deck in settled_decks():
            closed = closed_by_hand(deck)
            for place, (name, _) in enumerate(deck):
                self.assertEqual(never_paper(deck, name), None if place < closed else (0, closed))

    def test_the_least_steps_of_small_decks(self):
        later = 0
        for deck in lively_decks(150, 275, 3, 8, odds=0.4) + chance_decks(60, 276, 8) + small_decks(4, 4):
            gone = GoneByHand(deck)
            for name, _ in deck:
                due = None
                for steps in range(gone.first + 1):
                    behind = gone.decks[steps]
                    closed = closed_by_hand(behind)
                    if name in [other for other, _ in behind[closed:]]:
                        due = (steps, closed)
                        break
                self.assertEqual(never_paper(deck, name), due)
                later += due is not None and due[0] > 2
        self.assertGreater(later, 30)

    def test_far_on(self):
        later = 0
        for deck in far_decks() + late_decks(12, 277) + lively_decks(20, 278, 25, odds=0.25):
            shut = dict(closings(deck))
            for name, _ in deck:
                paper = never_paper(deck, name)
                if fate(deck, name) == ("ever",):
                    self.assertIsNone(paper)
                    continue
                steps, place = paper
                self.assertEqual(shut[steps], place)
                self.assertIs(never_shows(deck, name, paper), True)
                self.assertIn(name, [other for other, _ in deck_at(deck, steps)[place:]])
                if steps:
                    before = deck_at(deck, steps - 1)
                    self.assertNotIn(name, [other for other, _ in before[closed_by_hand(before):]])
                self.assertIsNone(when_seen(deck_at(deck, steps), name, 0))
                later += steps > 10 ** 6
        self.assertGreater(later, 20)

    def test_none_just_where_the_fate_is_ever(self):
        for deck in far_decks() + chance_decks(60, 279):
            for name, _ in deck:
                self.assertEqual(never_paper(deck, name) is None, fate(deck, name) == ("ever",))

    def test_a_name_that_is_seen_up_to_the_step_ahead(self):
        for cards in (4, 9, 40):
            deck = late_deck(cards, cards - 2)
            name = deck[-2][0]
            steps = 2 ** (cards - 2)
            self.assertEqual(never_paper(deck, name), (steps, cards - 1))
            self.assertEqual(fate(deck, name), ("last", steps - 1))

    def test_the_kinds_that_are_told(self):
        for form in all_forms(THREE):
            told = never_paper(form, "a")
            self.assertEqual([type(thing) for thing in (told,) + told], [tuple, int, int])
            self.assertEqual(told, (1, 1))

    def test_no_name(self):
        for name in NO_NAMES + ["d", "aa", "ab", "abc"]:
            with self.subTest(name=name):
                self.assertIs(refusal(never_paper, THREE, name), NoName)

    def test_no_deck_goes_first(self):
        for thing in NO_DECKS:
            for name in ("a", "x", "q", "", None, 0):
                self.assertIs(refusal(never_paper, thing, name), NoDeck, thing)


class NeverShows(unittest.TestCase):
    def test_few_cards(self):
        self.assertIs(never_shows(THREE, "a", (1, 1)), True)
        self.assertIs(never_shows(THREE, "c", (0, 2)), True)
        self.assertIs(never_shows(THREE, "c", (1, 1)), True)
        self.assertIs(never_shows(THREE, "c", (HUGE, 1)), True)
        for name, paper in (("a", (0, 2)), ("a", (0, 1)), ("a", (1, 2)), ("b", (1, 1)), ("c", (0, 1)), ("c", (1, 2))):
            self.assertIs(never_shows(THREE, name, paper), False)

    def test_all_pairs_of_small_decks(self):
        told = {True: 0, False: 0}
        for deck in lively_decks(40, 280, 3, 7, odds=0.4) + small_decks(3, 4) + [SHUT]:
            gone = GoneByHand(deck)
            for steps in list(range(min(gone.first + 3, 30))) + [1000, HUGE]:
                behind = gone.behind(steps)
                closed = closed_by_hand(behind)
                beneath = [name for name, _ in behind[closed:]]
                for place in range(-1, len(deck) + 2):
                    for name, _ in deck:
                        due = place == closed and name in beneath
                        self.assertIs(never_shows(deck, name, (steps, place)), due)
                        told[due] += 1
        self.assertGreater(min(told.values()), 300)

    def test_lists_and_tuples(self):
        for form in all_forms(THREE):
            for paper in ((1, 1), [1, 1]):
                self.assertIs(never_shows(form, "a", paper), True)
                self.assertIs(never_shows(form, "b", paper), False)

    def test_papers_behind_the_least_steps_and_ahead(self):
        for deck in far_decks()[:-1] + [late_deck(40, 38), crowded_deck()[:30]]:
            for name, _ in deck[::4] + deck[-2:]:
                paper = never_paper(deck, name)
                if paper is None:
                    for steps, place in closings(deck):
                        self.assertIs(never_shows(deck, name, (steps, place)), False)
                    continue
                for steps, place in closings(deck):
                    self.assertIs(never_shows(deck, name, (steps, place)), steps >= paper[0])
                    self.assertIs(never_shows(deck, name, (steps, place + 1)), False)
                    self.assertIs(never_shows(deck, name, (steps, place - 1)), False)
                self.assertIs(never_shows(deck, name, (HUGE * HUGE, closings(deck)[-1][1])), True)

    def test_truths_and_other_numbers(self):
        self.assertIs(never_shows(THREE, "a", (1, 1)), True)
        others = [(True, 1), (1, True), (True, True), (1.0, 1), (1, 1.0), ("1", 1), (1, "1"), (1, None), (None, 1)]
        others += [(1, [1]), ([1], 1), (-1, 1), (1, -1), (-1, -1), (1,), (1, 1, 1), (), ((1, 1),), [[1, 1]], [(1, 1)]]
        for paper in others:
            self.assertIs(never_shows(THREE, "a", paper), False, paper)
            self.assertIs(never_shows(THREE, "a", list(paper)), False, paper)
        self.assertIs(never_shows(THREE, "c", (0, 2)), True)
        self.assertIs(never_shows(THREE, "c", (False, 2)), False)
        self.assertIs(never_shows(THREE, "c", (-1, 2)), False)

    def test_other_things_altogether(self):
        for thing in OTHER_THINGS:
            for name in "abc":
                self.assertIs(never_shows(THREE, name, thing), False, thing)

    def test_no_name(self):
        for name in NO_NAMES + ["d", "aa", "ab", "abc"]:
            for paper in ((1, 1), None):
                self.assertIs(refusal(never_shows, THREE, name, paper), NoName)

    def test_no_deck_goes_first(self):
        for thing in NO_DECKS:
            for name in ("a", "x", "q", "", None, 0):
                self.assertIs(refusal(never_shows, thing, name, (1, 1)), NoDeck, thing)


if __name__ == "__main__":
    unittest.main()
