"""Promises 1, 2 and 3, as far as they reach all calls alike: what is told is the asker's own."""

import inspect
import unittest
from contextlib import ExitStack
from copy import deepcopy
from unittest.mock import patch

from slideback import ahead, comings, decks, desk, far, homes, levels, papers, rounds, seen, texts, twos
from slideback.ahead import decks_ahead, goes_back
from slideback.comings import closings, fate, settled_behind
from slideback.decks import deck_behind, deck_of, deepened, drawn, laid, row_seen, slid
from slideback.desk import Desk
from slideback.errors import (
    DeckError, Full, Last, NoCard, NoDeck, NoDepth, NoDepths, NoForm, NoLevel, NoName, NoNames, NoneYet, NoNumber,
    NoOrder, NoPlace, NoRow, NoStep, NoText, NotLasting, NotSettled, TooMany, Twice,
)
from slideback.far import deck_at, how_often, seen_at, when_seen
from slideback.homes import are_lasting, home_orders, is_settled, orders_counted, patterns, ring_sizes
from slideback.levels import away, closed_place, hand_at, is_home, place_of, ring_at
from slideback.papers import never_paper, never_shows, paper_of, paper_shows
from slideback.rounds import round_length, round_of, rounds_counted, share, steps_to
from slideback.seen import all_depths, depths_let, wished
from slideback.texts import deck_text, patterns_text, read_deck
from slideback.twos import first_sights, parting, unlike_places
from tests.common import HUGE, all_forms, as_lists, chance_decks, deck_with, is_told_deck, left_alone, refusal

# b is away.
DECK = (("a", 2), ("b", 0), ("c", 2), ("d", 3))
# Of lasting cards, and settled; depths are not reaches.
SETTLED = (("a", 2), ("b", 2), ("c", 9), ("d", 3))

# Each call of a deck, with what is handed in behind it, by its place and by its name.
ASKS = [
    (deck_of, (), {}),
    (slid, (), {}),
    (row_seen, (5,), {}),
    (row_seen, (0,), {}),
    (deck_behind, (0,), {}),
    (deck_behind, (5,), {}),
    (laid, (["n", 3], 1), {}),
    (drawn, ("c",), {}),
    (deepened, ("b", 9), {}),
    (decks_ahead, (), {}),
    (decks_ahead, (), {"steps": 0}),
    (decks_ahead, (), {"steps": 3}),
    (goes_back, (4,), {}),
    (place_of, ("c",), {}),
    (is_home, ("b",), {}),
    (closed_place, (), {}),
    (away, (), {}),
    (hand_at, (2,), {}),
    (ring_at, (2,), {}),
    (is_settled, (), {}),
    (orders_counted, (), {}),
    (home_orders, (), {}),
    (are_lasting, (), {}),
    (seen_at, (0,), {}),
    (seen_at, (HUGE,), {}),
    (deck_at, (0,), {}),
    (deck_at, (3,), {}),
    (deck_at, (HUGE,), {}),
    (how_often, (HUGE, "a"), {}),
    (when_seen, ("a", 0), {}),
    (when_seen, ("c", 5), {}),
    (comings.comings, (), {}),
    (settled_behind, (), {}),
    (closings, (), {}),
    (fate, ("a",), {}),
    (fate, ("c",), {}),
    (round_of, (), {}),
    (share, ("b",), {}),
    (parting, ([["a", 2], ["b", 0]],), {}),
    (parting, ([["a", 2], ["b", 0], ["c", 2], ["d", 2]],), {}),
    (first_sights, (0,), {}),
    (first_sights, (HUGE,), {}),
    (unlike_places, ([["a", 2], ["b", 1]],), {}),
    (never_paper, ("c",), {}),
    (never_shows, ("c", [1, 1]), {}),
    (never_shows, ("c", [0, [1]]), {}),
    (wished, (2, "a"), {}),
    (deck_text, (), {}),
]

# Those of a settled deck, or of lasting cards, alone.
SETTLED_ASKS = [
    (patterns, (), {}),
    (ring_sizes, (), {}),
    (home_orders, (), {}),
    (away, (), {}),
    (deck_at, (HUGE,), {}),
    (round_of, (), {}),
    (share, ("b",), {}),
    (round_length, (), {}),
    (rounds_counted, (), {}),
    (steps_to, ([["b", 2], ["c", 9], ["a", 2], ["d", 3]],), {}),
    (steps_to, ([["a", 2], ["b", 2]],), {}),
    (first_sights, (HUGE,), {}),
    (unlike_places, ([["a", 2], ["b", 1]],), {}),
    (paper_of, (5,), {}),
    (paper_of, (HUGE,), {}),
    (paper_shows, (5, "a", [[5, 5, 0], [5, 2, 1]]), {}),
    (paper_shows, (1, "b", [[1, 1, 0], [1, 0, 1], [1, 0, 1]]), {}),
    (patterns_text, (), {}),
]

# What is asked, with the deck that it is asked of.
BOTH = [(DECK,) + ask for ask in ASKS] + [(SETTLED,) + ask for ask in SETTLED_ASKS]

REFUSED = [
    (slid, (as_lists(DECK) + [["a", 0]],), {}, NoDeck),
    (deck_of, ([["a", 0], ["b", -1]],), {}, NoDeck),
    (row_seen, (as_lists(DECK), -1), {}, NoNumber),
    (deck_behind, (as_lists(DECK), 2001), {}, NoNumber),
    (laid, (as_lists(DECK), ["n", -1], 0), {}, NoCard),
    (laid, (as_lists(DECK), ["a", 1], 0), {}, Twice),
    (laid, (as_lists(DECK), ["n", 1], 5), {}, NoPlace),
    (laid, (as_lists(deck_with(range(40))), ["n", 1], 0), {}, Full),
    (drawn, (as_lists(DECK), "n"), {}, NoName),
    (drawn, ([["a", 1]], "a"), {}, Last),
    (deepened, (as_lists(DECK), "n", 1), {}, NoName),
    (deepened, (as_lists(DECK), "a", -1), {}, NoDepth),
    (decks_ahead, (as_lists(DECK),), {"steps": 31}, NoNumber),
    (decks_ahead, (as_lists(deck_with(range(40))),), {"steps": 3}, TooMany),
    (goes_back, (as_lists(DECK), 31), {}, NoNumber),
    (goes_back, (as_lists(deck_with(range(40))), 3), {}, TooMany),
    (place_of, (as_lists(DECK), "n"), {}, NoName),
    (is_home, (as_lists(DECK), ["a"]), {}, NoName),
    (hand_at, (as_lists(DECK), 3), {}, NoLevel),
    (ring_at, (as_lists(DECK), [0]), {}, NoLevel),
    (patterns, (as_lists(DECK),), {}, NotSettled),
    (home_orders, (as_lists(deck_with([7] * 8)),), {}, TooMany),
    (ring_sizes, (as_lists(DECK),), {}, NotLasting),
    (seen_at, (as_lists(DECK), -1), {}, NoStep),
    (deck_at, (as_lists(DECK), [1]), {}, NoStep),
    (how_often, (as_lists(DECK), -1, "a"), {}, NoStep),
    (how_often, (as_lists(DECK), 5, "n"), {}, NoName),
    (when_seen, (as_lists(DECK), "n", 0), {}, NoName),
    (when_seen, (as_lists(DECK), "a", -1), {}, NoNumber),
    (comings.comings, ([["a", 0], ["b", -1]],), {}, NoDeck),
    (settled_behind, ([["a", 0], ["a", 1]],), {}, NoDeck),
    (closings, ([["a"]],), {}, NoDeck),
    (fate, (as_lists(DECK), ["a"]), {}, NoName),
    (round_of, ([[]],), {}, NoDeck),
    (share, (as_lists(DECK), "n"), {}, NoName),
    (round_length, ([["a", 0], ["b", 0]],), {}, NoOrder),
    (rounds_counted, ([["a", 0], ["b", 0]],), {}, NoOrder),
    (steps_to, (as_lists(DECK), as_lists(SETTLED)), {}, NotSettled),
    (steps_to, (as_lists(SETTLED), as_lists(DECK)), {}, NotSettled),
    (parting, (as_lists(DECK), [["a", 0], ["a", 1]]), {}, NoDeck),
    (first_sights, (as_lists(DECK), [1]), {}, NoStep),
    (unlike_places, (as_lists(DECK), [["a", [0]]]), {}, NoDeck),
    (paper_of, (as_lists(DECK), 1), {}, NotSettled),
    (paper_of, (as_lists(SETTLED), [1]), {}, NoStep),
    (paper_shows, (as_lists(DECK), 1, "a", [[1, 1, 0]]), {}, NotSettled),
    (paper_shows, (as_lists(SETTLED), -1, "a", [[1, 1, 0]]), {}, NoStep),
    (paper_shows, (as_lists(SETTLED), 1, ["a"], [[1, 1, 0]]), {}, NoName),
    (never_paper, (as_lists(DECK), "n"), {}, NoName),
    (never_shows, (as_lists(DECK), ["a"], [1, 1]), {}, NoName),
    (depths_let, (["a", "a"], ["a"], [0, 0]), {}, NoNames),
    (depths_let, (["a", "b"], ["a", ["b"]], [0, 0]), {}, NoRow),
    (depths_let, (["a", "b"], ["a", "b"], [0, [0]]), {}, NoDepths),
    (all_depths, (["a", ["b"]], ["a"]), {}, NoNames),
    (all_depths, (["a", "b"], ["a", "n"]), {}, NoRow),
    (all_depths, (["a", "b", "c", "d", "e"], ["a"]), {}, TooMany),
    (wished, (as_lists(DECK), [1], "a"), {}, NoStep),
    (wished, (as_lists(DECK), 1, ["a"]), {}, NoName),
    (deck_text, ([["a", [1]]],), {}, NoDeck),
    (patterns_text, (as_lists(DECK),), {}, NotSettled),
    (read_deck, (["a:1"],), {}, NoText),
    (read_deck, ("a:1 a:1",), {}, NoDeck),
    (Desk().say, (["show"],), {}, NoForm),
    (Desk().say, ("undo",), {}, NoneYet),
]

# What is asked of rows of names, with all that is handed in.
ROW_ASKS = [
    (depths_let, (["a", "b", "c"], ["a", "b", "a"], [1, 2, 2])),
    (depths_let, (["a", "b", "c"], ["a", "b", "b"], [1, 2, 2])),
    (all_depths, (["a", "b", "c"], ["a", "b", "a"])),
    (all_depths, (["a", "b"], [])),
    (all_depths, (["a", "b"], ["b"])),
]


def all_answers(deck):
    """What all the calls tell of a deck."""
    return [call(deck, *rest, **named) for call, rest, named in ASKS]


def settled_answers(deck):
    """What the calls tell of a settled deck of lasting cards."""
    return [call(deck, *rest, **named) for call, rest, named in SETTLED_ASKS]


def lists_in(thing):
    """The lists that a thing is and has, within tuples too."""
    if not isinstance(thing, (list, tuple)):
        return []
    within = [one for part in thing for one in lists_in(part)]
    return [thing] + within if isinstance(thing, list) else within


def spoil(thing):
    """Change a thing, where it is a list, and the lists within it."""
    for one in lists_in(thing):
        if one:
            one[0] = "zz"
        one.append("x")
        one.reverse()


class Interface(unittest.TestCase):
    def test_each_function_is_defined_in_its_file(self):
        listed = [
            (decks, "deck_of slid row_seen deck_behind laid drawn deepened"),
            (ahead, "decks_ahead goes_back"),
            (levels, "place_of is_home closed_place away hand_at ring_at"),
            (homes, "is_settled patterns orders_counted home_orders are_lasting ring_sizes"),
            (far, "seen_at deck_at how_often when_seen"),
            (comings, "comings settled_behind closings fate"),
            (rounds, "round_of share round_length rounds_counted steps_to"),
            (twos, "parting first_sights unlike_places"),
            (papers, "paper_of paper_shows never_paper never_shows"),
            (seen, "depths_let all_depths wished"),
            (texts, "deck_text patterns_text read_deck"),
        ]
        for module, names in listed:
            for name in names.split():
                with self.subTest(name):
                    self.assertTrue(inspect.isfunction(getattr(module, name)))
                    self.assertEqual(getattr(module, name).__module__, module.__name__)

    def test_the_class_is_defined_in_its_file(self):
        self.assertTrue(inspect.isclass(desk.Desk))
        self.assertEqual(desk.Desk.__module__, "slideback.desk")
        self.assertTrue(inspect.isfunction(vars(desk.Desk)["say"]))

    def test_steps_is_left_out_or_told_by_its_name(self):
        for deck in all_forms(DECK):
            self.assertEqual(decks_ahead(deck), decks_ahead(deck, steps=1))
            self.assertNotEqual(decks_ahead(deck, steps=0), decks_ahead(deck, steps=1))
        steps = inspect.signature(decks_ahead).parameters["steps"]
        self.assertEqual(steps.kind, inspect.Parameter.KEYWORD_ONLY)
        self.assertEqual(steps.default, 1)

    def test_arguments_are_handed_by_their_places(self):
        self.assertEqual(how_often(DECK, 1, "a"), 1)
        self.assertEqual(when_seen(DECK, "a", 0), 0)
        for call, told in ((how_often, (DECK, "a", 1)), (when_seen, (DECK, 0, "a")), (wished, (DECK, "a", 1))):
            self.assertIsNotNone(refusal(call, *told))
        self.assertIs(paper_shows(SETTLED, 0, "a", paper_of(SETTLED, 0)), True)
        self.assertIs(never_shows(DECK, "c", never_paper(DECK, "c")), True)
        self.assertIs(depths_let(["a", "b"], ["a", "b", "b"], [1, 0]), True)


class NothingFromOutside(unittest.TestCase):
    """Promise 1: nothing uses a clock, chance or files."""

    def test_all_is_told_without_clock_chance_and_files(self):
        before = (all_answers(DECK), settled_answers(SETTLED))
        outside = ["time.time", "time.monotonic", "time.perf_counter", "time.time_ns", "builtins.open", "io.open"]
        outside += ["os.open", "os.urandom", "random.random", "random.randrange", "random.shuffle", "random.choice"]
        with ExitStack() as barred:
            calls = [barred.enter_context(patch(name, side_effect=OSError)) for name in outside]
            answers = (all_answers(DECK), settled_answers(SETTLED))
            asked = [call.called for call in calls]
        self.assertEqual(answers, before)
        self.assertEqual(asked, [False] * len(outside))


class KindsThatAreTold(unittest.TestCase):
    def test_decks_are_tuples_all_through(self):
        for deck in all_forms(DECK):
            told = [deck_of(deck), slid(deck), deck_behind(deck, 0), deck_behind(deck, 7)]
            told += [laid(deck, ("n", 1), 4), laid(deck, ["n", 1], 0), drawn(deck, "a"), deepened(deck, "a", HUGE)]
            told += decks_ahead(deck) + decks_ahead(deck, steps=0) + decks_ahead(deck, steps=2)
            told += home_orders(deck) + [deck_at(deck, 0), deck_at(deck, 1), deck_at(deck, HUGE)]
            for one in told:
                self.assertTrue(is_told_deck(one), one)

    def test_rows_are_lists_of_texts(self):
        for deck in all_forms(DECK):
            for steps in (0, 1, 9):
                row = row_seen(deck, steps)
                self.assertIs(type(row), list)
                self.assertEqual([type(name) for name in row], [str] * steps)
            for names in (away(deck), hand_at(deck, 1), hand_at(deck, 2), ring_at(deck, 0), ring_at(deck, 2)):
                self.assertIs(type(names), list)
                self.assertEqual({type(name) for name in names}, {str})
            self.assertIs(type(seen_at(deck, 3)), str)

    def test_lists_within_lists(self):
        for deck in all_forms(SETTLED):
            rows = patterns(deck)
            self.assertIs(type(rows), list)
            self.assertEqual([type(row) for row in rows], [list] * 4)
            self.assertEqual([type(thing) for thing in rows[2]], [str, str, type(None)])

    def test_whole_numbers_and_truths(self):
        for deck in all_forms(SETTLED):
            numbers = [place_of(deck, "b"), closed_place(deck), orders_counted(deck), goes_back(deck, 3)]
            numbers += [how_often(deck, 9, "b"), how_often(deck, HUGE, "b"), when_seen(deck, "b", 3)] + ring_sizes(deck)
            self.assertEqual({type(number) for number in numbers}, {int})
            truths = [is_home(deck, "b"), is_settled(deck), are_lasting(deck), is_settled(slid(DECK)), is_settled(DECK)]
            self.assertEqual({type(truth) for truth in truths}, {bool})

    def test_what_is_told_may_be_handed_in(self):
        for deck in chance_decks(40, 2):
            behind = deck_behind(slid(deck_of(deck)), 9)
            self.assertEqual(deck_of(behind), behind)
            for one in decks_ahead(behind):
                self.assertEqual(slid(one), behind)
            far_on = deck_at(behind, HUGE)
            often = how_often(behind, HUGE * HUGE, far_on[0][0])
            step = when_seen(behind, far_on[0][0], often)
            self.assertEqual(seen_at(far_on, step - HUGE), far_on[0][0])
            self.assertEqual(place_of(deck_at(behind, step), seen_at(behind, step)), 0)
            for step, names in comings.comings(deck):
                self.assertLessEqual(set(names), set(away(deck_at(deck, step))))
            first, length = round_of(deck)
            self.assertEqual(settled_behind(deck), first)
            self.assertEqual(steps_to(deck_at(deck, first), deck_at(deck, first + length * HUGE)), 0)
            self.assertEqual(first_sights(deck, first + length * HUGE), first_sights(deck, first))
            self.assertEqual(read_deck(deck_text(deck)), deck)
            settled = deck_at(deck, first)
            step = length * HUGE + 7
            self.assertIs(paper_shows(settled, step, seen_at(settled, step), paper_of(settled, step)), True)
            for name, _ in deck:
                paper = never_paper(deck, name)
                self.assertEqual(paper is None, fate(deck, name) == ("ever",))
                self.assertIs(never_shows(deck, name, paper), paper is not None)
            row = row_seen(deck, 40)
            names = [name for name, _ in deck]
            self.assertIs(depths_let(names, row, [depth for _, depth in deck]), True)
            if len(deck) < 5:
                for depths in all_depths(names, row):
                    self.assertIs(depths_let(names, row, depths), True)


class HandedInStays(unittest.TestCase):
    def test_what_is_answered_leaves_it_as_it_was(self):
        for deck, call, rest, named in BOTH:
            for form in all_forms(deck):
                with self.subTest(call=call.__name__, form=form):
                    self.assertIsNone(refusal(call, form, *rest, **named))
                    self.assertTrue(left_alone(call, form, *rest, **named))

    def test_rows_of_names_stay(self):
        for call, told in ROW_ASKS:
            self.assertIsNone(refusal(call, *told))
            self.assertTrue(left_alone(call, *told))

    def test_what_is_refused_leaves_it_as_it_was(self):
        for call, told, named, why in REFUSED:
            with self.subTest(call=call.__name__, why=why.__name__):
                self.assertIs(refusal(call, *told, **named), why)
                self.assertTrue(left_alone(call, *told, **named))

    def test_what_is_refused_changes_no_answer(self):
        before = (all_answers(DECK), settled_answers(SETTLED))
        for call, told, named, why in REFUSED:
            self.assertIs(refusal(call, *told, **named), why)
            self.assertEqual((all_answers(DECK), settled_answers(SETTLED)), before)

    def test_what_is_refused_is_refused_again(self):
        for call, told, named, why in REFUSED + REFUSED:
            self.assertIs(refusal(call, *told, **named), why)
            self.assertEqual(why.__bases__, (DeckError,))


class OnesOwn(unittest.TestCase):
    def test_the_same_asked_again_is_told_the_same(self):
        first = all_answers(DECK)
        self.assertEqual(all_answers(as_lists(DECK)), first)
        self.assertEqual(all_answers(DECK), first)
        first = settled_answers(SETTLED)
        self.assertEqual(settled_answers(as_lists(SETTLED)), first)
        self.assertEqual(settled_answers(SETTLED), first)
        for deck in chance_decks(20, 22, 9):
            for ask in (slid, lambda told: row_seen(told, 9), lambda told: decks_ahead(told, steps=3), away):
                self.assertEqual(ask(deck), ask(deck))
            for steps in (9, HUGE):
                self.assertEqual(deck_at(deck, steps), deck_at(deck, steps))

    def test_a_told_list_that_is_changed_changes_no_later_answer(self):
        for deck, call, rest, named in BOTH:
            answer = call(deck, *rest, **named)
            with self.subTest(call=call.__name__, rest=rest, named=named):
                before = deepcopy(answer)
                spoil(answer)
                self.assertEqual(call(deck, *rest, **named), before)
                for one in lists_in(answer):
                    one.clear()
                self.assertEqual(call(deck, *rest, **named), before)
                told = lists_in([call(deck, *rest, **named) for _ in range(3)])
                self.assertEqual(len({id(one) for one in told}), len(told))

    def test_rows_of_names_and_what_is_told_of_them(self):
        for call, told in ROW_ASKS:
            handed = deepcopy(told)
            answer = call(*handed)
            before = deepcopy(answer)
            spoil(handed)
            self.assertEqual(answer, before)
            spoil(answer)
            self.assertEqual(call(*told), before)
            self.assertEqual(call(*[tuple(thing) for thing in told]), before)

    def test_lists_within_a_told_list_are_each_ones_own(self):
        before = deepcopy(patterns(SETTLED))
        rows = patterns(SETTLED)
        for at, row in enumerate(rows):
            row.append("x")
            self.assertEqual(rows[at + 1:], before[at + 1:])
            self.assertEqual(patterns(SETTLED), before)
            row.clear()
        self.assertEqual(patterns(SETTLED), before)

    def test_a_told_list_is_not_changed_by_later_asks(self):
        told = [call(deck, *rest, **named) for deck, call, rest, named in BOTH]
        kept = deepcopy(told)
        all_answers(DECK)
        all_answers([["c", 2], ["b", 0], ["a", 9]])
        settled_answers([["c", 1], ["b", 2], ["a", 9]])
        self.assertEqual(told, kept)

    def test_a_list_that_is_changed_behind_an_ask_changes_no_answer(self):
        for deck, call, rest, named in BOTH:
            with self.subTest(call=call.__name__, rest=rest, named=named):
                expected = call(deck, *rest, **named)
                handed = [as_lists(deck)] + deepcopy(list(rest))
                answer = call(*handed, **named)
                spoil(handed)
                self.assertEqual(answer, expected)
                self.assertEqual(call(as_lists(deck), *rest, **named), expected)

    def test_a_changed_list_is_read_anew(self):
        cards = as_lists(DECK)
        before = all_answers(cards)
        cards[0][1] = 5
        cards[3][1] = 0
        self.assertEqual(all_answers(cards), all_answers((("a", 5), ("b", 0), ("c", 2), ("d", 0))))
        self.assertNotEqual(all_answers(cards), before)


class WholeNumbers(unittest.TestCase):
    def test_truths_are_none(self):
        for truth in (True, False):
            self.assertIs(refusal(deck_of, [("a", truth)]), NoDeck)
            self.assertIs(refusal(row_seen, DECK, truth), NoNumber)
            self.assertIs(refusal(deck_behind, DECK, truth), NoNumber)
            self.assertIs(refusal(laid, DECK, ("n", truth), 0), NoCard)
            self.assertIs(refusal(laid, DECK, ("n", 0), truth), NoPlace)
            self.assertIs(refusal(deepened, DECK, "a", truth), NoDepth)
            self.assertIs(refusal(decks_ahead, DECK, steps=truth), NoNumber)
            self.assertIs(refusal(goes_back, DECK, truth), NoNumber)
            self.assertIs(refusal(hand_at, DECK, truth), NoLevel)
            self.assertIs(refusal(ring_at, DECK, truth), NoLevel)
            self.assertIs(refusal(seen_at, DECK, truth), NoStep)
            self.assertIs(refusal(deck_at, DECK, truth), NoStep)
            self.assertIs(refusal(how_often, DECK, truth, "a"), NoStep)
            self.assertIs(refusal(when_seen, DECK, "a", truth), NoNumber)
            self.assertIs(refusal(first_sights, DECK, truth), NoStep)
            self.assertIs(refusal(paper_of, SETTLED, truth), NoStep)
            self.assertIs(refusal(paper_shows, SETTLED, truth, "a", []), NoStep)
            self.assertIs(refusal(wished, DECK, truth, "a"), NoStep)
            self.assertIs(refusal(depths_let, ["a", "b"], ["a"], [0, truth]), NoDepths)
            self.assertIs(refusal(all_depths, ["a", truth], []), NoNames)
            self.assertIs(refusal(all_depths, ["a"], [truth]), NoRow)
            for call in (comings.comings, settled_behind, closings, round_of, round_length, rounds_counted):
                self.assertIs(refusal(call, [("a", truth)]), NoDeck)
            for call in (steps_to, parting, unlike_places):
                self.assertIs(refusal(call, DECK, [("a", truth)]), NoDeck)
            for call in (closed_place, away, is_settled, patterns):
                self.assertIs(refusal(call, [("a", truth)]), NoDeck)
            for call in (orders_counted, home_orders, are_lasting, ring_sizes):
                self.assertIs(refusal(call, [("a", truth)]), NoDeck)

    def test_thirty_figures(self):
        deck = (("a", HUGE), ("b", HUGE - 1))
        self.assertEqual(len(str(HUGE)), 30)
        self.assertEqual(deck_behind(deck, 3), (("b", HUGE - 1), ("a", HUGE)))
        self.assertEqual(row_seen(deck, 3), ["a", "b", "a"])
        self.assertEqual(decks_ahead(deck), [(("b", HUGE - 1), ("a", HUGE))])
        # A small number goes first: a program that takes any would go on for ever with a huge one.
        for number in (2001, -HUGE, HUGE):
            self.assertIs(refusal(row_seen, deck, number), NoNumber)
            self.assertIs(refusal(deck_behind, deck, number), NoNumber)
            self.assertIs(refusal(laid, deck, ("n", 0), number), NoPlace)
            self.assertIs(refusal(decks_ahead, deck, steps=number), NoNumber)
            self.assertIs(refusal(goes_back, deck, number), NoNumber)


if __name__ == "__main__":
    unittest.main()
