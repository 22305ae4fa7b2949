"""Promises 1, 2 and 3, as far as they reach all calls alike: what is told is the asker's own."""

import inspect
import unittest
from contextlib import ExitStack
from copy import deepcopy
from unittest.mock import patch

from slideback import ahead, decks
from slideback.ahead import decks_ahead, goes_back
from slideback.decks import deck_behind, deck_of, deepened, drawn, laid, row_seen, slid
from slideback.errors import Full, Last, NoCard, NoDeck, NoDepth, NoName, NoNumber, NoPlace, TooMany, Twice
from tests.common import HUGE, all_forms, as_lists, chance_decks, deck_with, is_told_deck, left_alone, refusal

DECK = (("a", 2), ("b", 0), ("c", 2), ("d", 3))

# Each call, with what is handed in behind the deck, by its place and by its name.
ASKS = [
    (deck_of, (), {}),
    (slid, (), {}),
    (row_seen, (5,), {}),
    (row_seen, (0,), {}),
    (deck_behind, (0,), {}),
    (deck_behind, (5,), {}),
    (laid, (["n", 3], 1), {}),
    (drawn, ("c",), {}),
    (deepened, ("b", 9), {}),
    (decks_ahead, (), {}),
    (decks_ahead, (), {"steps": 0}),
    (decks_ahead, (), {"steps": 3}),
    (goes_back, (4,), {}),
]

REFUSED = [
    (slid, (as_lists(DECK) + [["a", 0]],), {}, NoDeck),
    (deck_of, ([["a", 0], ["b", -1]],), {}, NoDeck),
    (row_seen, (as_lists(DECK), -1), {}, NoNumber),
    (deck_behind, (as_lists(DECK), 2001), {}, NoNumber),
    (laid, (as_lists(DECK), ["n", -1], 0), {}, NoCard),
    (laid, (as_lists(DECK), ["a", 1], 0), {}, Twice),
    (laid, (as_lists(DECK), ["n", 1], 5), {}, NoPlace),
    (laid, (as_lists(deck_with(range(40))), ["n", 1], 0), {}, Full),
    (drawn, (as_lists(DECK), "n"), {}, NoName),
    (drawn, ([["a", 1]], "a"), {}, Last),
    (deepened, (as_lists(DECK), "n", 1), {}, NoName),
    (deepened, (as_lists(DECK), "a", -1), {}, NoDepth),
    (decks_ahead, (as_lists(DECK),), {"steps": 31}, NoNumber),
    (decks_ahead, (as_lists(deck_with(range(40))),), {"steps": 3}, TooMany),
    (goes_back, (as_lists(DECK), 31), {}, NoNumber),
    (goes_back, (as_lists(deck_with(range(40))), 3), {}, TooMany),
]


def all_answers(deck):
    """What all the calls tell of a deck."""
    return [call(deck, *rest, **named) for call, rest, named in ASKS]


def spoil(cards):
    """Change a list and the lists within it."""
    for card in cards:
        if isinstance(card, list):
            card[0] = "zz"
            card.append(5)
    cards.append("x")
    cards.reverse()


class Interface(unittest.TestCase):
    def test_each_function_is_defined_in_its_file(self):
        listed = {
            "slideback.decks": "deck_of slid row_seen deck_behind laid drawn deepened",
            "slideback.ahead": "decks_ahead goes_back",
        }
        for module, names in ((decks, listed["slideback.decks"]), (ahead, listed["slideback.ahead"])):
            for name in names.split():
                with self.subTest(name):
                    self.assertTrue(inspect.isfunction(getattr(module, name)))
                    self.assertEqual(getattr(module, name).__module__, module.__name__)

    def test_steps_is_left_out_or_told_by_its_name(self):
        for deck in all_forms(DECK):
            self.assertEqual(decks_ahead(deck), decks_ahead(deck, steps=1))
            self.assertNotEqual(decks_ahead(deck, steps=0), decks_ahead(deck, steps=1))
        steps = inspect.signature(decks_ahead).parameters["steps"]
        self.assertEqual(steps.kind, inspect.Parameter.KEYWORD_ONLY)
        self.assertEqual(steps.default, 1)


class NothingFromOutside(unittest.TestCase):
    """Promise 1: nothing uses a clock, chance or files."""

    def test_all_is_told_without_clock_chance_and_files(self):
        before = all_answers(DECK)
        outside = ["time.time", "time.monotonic", "time.perf_counter", "time.time_ns", "builtins.open", "io.open"]
        outside += ["os.open", "os.urandom", "random.random", "random.randrange", "random.shuffle", "random.choice"]
        with ExitStack() as barred:
            calls = [barred.enter_context(patch(name, side_effect=OSError)) for name in outside]
            answers = all_answers(DECK)
            asked = [call.called for call in calls]
        self.assertEqual(answers, before)
        self.assertEqual(asked, [False] * len(outside))


class KindsThatAreTold(unittest.TestCase):
    def test_decks_are_tuples_all_through(self):
        for deck in all_forms(DECK):
            told = [deck_of(deck), slid(deck), deck_behind(deck, 0), deck_behind(deck, 7)]
            told += [laid(deck, ("n", 1), 4), laid(deck, ["n", 1], 0), drawn(deck, "a"), deepened(deck, "a", HUGE)]
            told += decks_ahead(deck) + decks_ahead(deck, steps=0) + decks_ahead(deck, steps=2)
            for one in told:
                self.assertTrue(is_told_deck(one), one)

    def test_rows_are_lists_of_texts(self):
        for deck in all_forms(DECK):
            for steps in (0, 1, 9):
                row = row_seen(deck, steps)
                self.assertIs(type(row), list)
                self.assertEqual([type(name) for name in row], [str] * steps)

    def test_what_is_told_may_be_handed_in(self):
        for deck in chance_decks(40, 2):
            behind = deck_behind(slid(deck_of(deck)), 9)
            self.assertEqual(deck_of(behind), behind)
            for one in decks_ahead(behind):
                self.assertEqual(slid(one), behind)


class HandedInStays(unittest.TestCase):
    def test_what_is_answered_leaves_it_as_it_was(self):
        for form in all_forms(DECK):
            for call, rest, named in ASKS:
                with self.subTest(call=call.__name__, form=form):
                    self.assertIsNone(refusal(call, form, *rest, **named))
                    self.assertTrue(left_alone(call, form, *rest, **named))

    def test_what_is_refused_leaves_it_as_it_was(self):
        for call, told, named, why in REFUSED:
            with self.subTest(call=call.__name__, why=why.__name__):
                self.assertIs(refusal(call, *told, **named), why)
                self.assertTrue(left_alone(call, *told, **named))

    def test_what_is_refused_changes_no_answer(self):
        before = all_answers(DECK)
        for call, told, named, why in REFUSED:
            self.assertIs(refusal(call, *told, **named), why)
            self.assertEqual(all_answers(DECK), before)

    def test_what_is_refused_is_refused_again(self):
        for call, told, named, why in REFUSED + REFUSED:
            self.assertIs(refusal(call, *told, **named), why)


class OnesOwn(unittest.TestCase):
    def test_the_same_asked_again_is_told_the_same(self):
        first = all_answers(DECK)
        self.assertEqual(all_answers(as_lists(DECK)), first)
        self.assertEqual(all_answers(DECK), first)
        for deck in chance_decks(20, 22, 9):
            for ask in (slid, lambda told: row_seen(told, 9), lambda told: decks_ahead(told, steps=3)):
                self.assertEqual(ask(deck), ask(deck))

    def test_a_told_list_that_is_changed_changes_no_later_answer(self):
        for call, rest, named in ASKS:
            answer = call(DECK, *rest, **named)
            if type(answer) is not list:
                continue
            with self.subTest(call=call.__name__, rest=rest, named=named):
                before = list(answer)
                answer.append("x")
                answer.reverse()
                self.assertEqual(call(DECK, *rest, **named), before)
                answer.clear()
                self.assertEqual(call(DECK, *rest, **named), before)
                self.assertIsNot(call(DECK, *rest, **named), call(DECK, *rest, **named))

    def test_a_told_list_is_not_changed_by_later_asks(self):
        row = row_seen(DECK, 6)
        some = decks_ahead(DECK, steps=2)
        kept = (list(row), list(some))
        all_answers(DECK)
        all_answers([["c", 1], ["b", 0], ["a", 9]])
        self.assertEqual((row, some), kept)

    def test_a_list_that_is_changed_behind_an_ask_changes_no_answer(self):
        for call, rest, named in ASKS:
            with self.subTest(call=call.__name__, rest=rest, named=named):
                expected = call(DECK, *rest, **named)
                handed = [as_lists(DECK)] + deepcopy(list(rest))
                answer = call(*handed, **named)
                for thing in handed:
                    if isinstance(thing, list):
                        spoil(thing)
                self.assertEqual(answer, expected)
                self.assertEqual(call(as_lists(DECK), *rest, **named), expected)

    def test_a_changed_list_is_read_anew(self):
        cards = as_lists(DECK)
        before = all_answers(cards)
        cards[0][1] = 1
        cards[3][1] = 0
        self.assertEqual(all_answers(cards), all_answers((("a", 1), ("b", 0), ("c", 2), ("d", 0))))
        self.assertNotEqual(all_answers(cards), before)


class WholeNumbers(unittest.TestCase):
    def test_truths_are_none(self):
        for truth in (True, False):
            self.assertIs(refusal(deck_of, [("a", truth)]), NoDeck)
            self.assertIs(refusal(row_seen, DECK, truth), NoNumber)
            self.assertIs(refusal(deck_behind, DECK, truth), NoNumber)
            self.assertIs(refusal(laid, DECK, ("n", truth), 0), NoCard)
            self.assertIs(refusal(laid, DECK, ("n", 0), truth), NoPlace)
            self.assertIs(refusal(deepened, DECK, "a", truth), NoDepth)
            self.assertIs(refusal(decks_ahead, DECK, steps=truth), NoNumber)
            self.assertIs(refusal(goes_back, DECK, truth), NoNumber)

    def test_thirty_figures(self):
        deck = (("a", HUGE), ("b", HUGE - 1))
        self.assertEqual(len(str(HUGE)), 30)
        self.assertEqual(deck_behind(deck, 3), (("b", HUGE - 1), ("a", HUGE)))
        self.assertEqual(row_seen(deck, 3), ["a", "b", "a"])
        self.assertEqual(decks_ahead(deck), [(("b", HUGE - 1), ("a", HUGE))])
        # A small number goes first: a program that takes any would go on for ever with a huge one.
        for number in (2001, -HUGE, HUGE):
            self.assertIs(refusal(row_seen, deck, number), NoNumber)
            self.assertIs(refusal(deck_behind, deck, number), NoNumber)
            self.assertIs(refusal(laid, deck, ("n", 0), number), NoPlace)
            self.assertIs(refusal(decks_ahead, deck, steps=number), NoNumber)
            self.assertIs(refusal(goes_back, deck, number), NoNumber)


if __name__ == "__main__":
    unittest.main()
