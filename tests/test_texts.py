"""Promise 30: texts of decks and of patterns, and decks read back from texts."""

import unittest

from slideback.errors import DeckError, NoDeck, NoText, NotSettled
from slideback.homes import patterns
from slideback.texts import deck_text, patterns_text, read_deck
from tests.common import (
    HUGE, NO_DECKS, NO_NAMES, all_forms, away_by_hand, chance_decks, closed_by_hand, deck_with, is_told_deck,
    lively_decks, pattern_by_hand, plateau_deck, refusal, rising_deck, settled_decks, small_decks,
)

FIVE = (("e", 7), ("a", 2), ("d", 3), ("b", 3), ("c", 9))

# Words that are no name and depth.
NO_WORDS = [
    "", ":", "::", "a", "a:", ":1", "1", "1:a", "a:b", "a:1:2", "a::1", "a:1:", ":a:1", "a1:1", "A:1", "aB:1", "a.b:1",
    "a:01", "a:00", "a:007", "a:-1", "a:+1", "a:1.0", "a:1e3", "a:0x1", "a:1_000", "a:1,000", "abcdefghi:1",
    "a:1\n", "\na:1", "a:\n1", "a\n:1", "a:1\nb:2", "a-b:1", "a_b:1", "(a:1)", "a:(1)", "a=1", "a;1", "a/1", ".", "~:1",
    "a:1;", "a:1,", "`:1", "{:1", "a:one", "a:none",
]


def place_refused(text):
    """The number of the word that is told where a text is refused with NoText."""
    try:
        read_deck(text)
    except NoText as why:
        return why.place
    return "not refused"


class DeckText(unittest.TestCase):
    def test_few_cards(self):
        self.assertEqual(deck_text(FIVE), "e:7 a:2 d:3 b:3 c:9")
        self.assertEqual(deck_text([["top", 0]]), "top:0")
        self.assertEqual(deck_text((("abcdefgh", HUGE), ("b", 10))), "abcdefgh:" + "9" * 30 + " b:10")

    def test_forty_cards(self):
        deck = rising_deck(40)
        self.assertEqual(deck_text(deck), " ".join(name + ":" + str(depth) for name, depth in deck))

    def test_each_form_is_told_the_same(self):
        for form in all_forms(FIVE):
            self.assertEqual(deck_text(form), "e:7 a:2 d:3 b:3 c:9")
            self.assertIs(type(deck_text(form)), str)

    def test_no_deck(self):
        for thing in NO_DECKS:
            self.assertIs(refusal(deck_text, thing), NoDeck, thing)


class ReadDeck(unittest.TestCase):
    def test_there_and_back(self):
        for deck in chance_decks(200, 330) + lively_decks(40, 331) + small_decks(3, 4) + [(("abcdefgh", HUGE),)]:
            told = read_deck(deck_text(deck))
            self.assertEqual(told, deck)
            self.assertTrue(is_told_deck(told))
            self.assertEqual(deck_text(told), deck_text(deck))

    def test_back_and_there(self):
        for text in ("a:0", "a:10 b:100", "zzzzzzzz:0 y:1 x:20", "a:" + "9" * 30, "a:" + "1" * 1900):
            self.assertEqual(deck_text(read_deck(text)), text)

    def test_noughts(self):
        self.assertEqual(read_deck("a:0 b:10"), (("a", 0), ("b", 10)))
        for text in ("a:00", "a:01", "a:010", "a:0000", "a:00000000000000000001"):
            self.assertEqual(place_refused(text), 0)

    def test_blanks(self):
        for text, place in (
            (" a:1", 0), ("a:1 ", 1), ("a:1  b:2", 1), ("a:1 b:2  c:3", 2), ("a:1 b:2 ", 2), (" ", 0), ("  ", 0),
            ("", 0), (" a:1 x", 0), ("a: 1", 0), ("a :1", 0), ("a:1\tb:2", 0), ("a:1\n", 0), ("\n", 0), ("a:1 \n", 1),
        ):
            self.assertEqual(place_refused(text), place, text)
            self.assertIs(refusal(read_deck, text), NoText)

    def test_words_of_no_form(self):
        for word in NO_WORDS:
            with self.subTest(word=word):
                self.assertEqual(place_refused(word), 0)
                self.assertEqual(place_refused("x:1 y:2 " + word), 2)
                self.assertEqual(place_refused("x:1 " + word + " y:2"), 1)

    def test_names_of_no_form(self):
        for name in NO_NAMES:
            if isinstance(name, str) and " " not in name:
                self.assertEqual(place_refused("x:0 " + name + ":1"), 1, name)

    def test_the_first_word_of_no_form(self):
        self.assertEqual(place_refused("a:1 b c d:"), 1)
        self.assertEqual(place_refused("a:1 b:2 c:3 d:04 e"), 3)
        self.assertEqual(place_refused("x " * 50 + "x"), 0)
        words = deck_text(rising_deck(40)).split(" ")
        for place in range(40):
            self.assertEqual(place_refused(" ".join(words[:place] + ["x"] + words[place + 1:] + ["y"])), place)

    def test_what_is_no_text(self):
        things = [None, True, 0, 1, b"a:1", ["a:1"], ("a:1",), [], (), {}, {"a:1": 1}, 1.5, FIVE, ["a", 1], object()]
        for thing in things:
            self.assertIsNone(place_refused(thing))
            self.assertIs(refusal(read_deck, thing), NoText)

    def test_what_has_the_form_but_is_no_deck(self):
        names = [name for name, _ in deck_with([0] * 60)]
        for text in ("a:1 a:1", "a:1 b:2 a:3", " ".join(name + ":1" for name in names[:41]), " ".join(["a:0"] * 60)):
            self.assertIs(refusal(read_deck, text), NoDeck)
        self.assertEqual(read_deck(" ".join(name + ":1" for name in names[:40])), deck_with([1] * 40))

    def test_no_form_goes_ahead_of_no_deck(self):
        self.assertEqual(place_refused("a:1 a:1 b"), 2)
        self.assertEqual(place_refused("a:1 " * 60 + "b"), 60)
        self.assertEqual(place_refused("a:1 a:01"), 1)

    def test_the_refusal_has_its_place(self):
        with self.assertRaises(NoText) as told:
            read_deck("a:1 b")
        self.assertEqual(told.exception.place, 1)
        self.assertIs(type(told.exception.place), int)
        self.assertIsInstance(told.exception, DeckError)
        self.assertEqual(NoText(7).place, 7)
        self.assertIsNone(NoText(None).place)


class PatternsText(unittest.TestCase):
    def test_few_cards(self):
        self.assertEqual(patterns_text(FIVE), ". / . . / . a . / . d b / e c")
        self.assertEqual(patterns_text((("a", 1), ("b", 2), ("c", 2))), ". / a . / b c")
        self.assertEqual(patterns_text([["top", 0]]), "top")
        self.assertEqual(patterns_text((("a", 0), ("b", 1), ("c", 0))), "a")

    def test_many_decks(self):
        for deck in settled_decks() + [plateau_deck(12)]:
            rows = [pattern_by_hand(deck, level) for level in range(closed_by_hand(deck))]
            due = " / ".join(" ".join(name or "." for name in row) for row in rows)
            self.assertEqual(patterns_text(deck), due)
            self.assertIs(type(patterns_text(deck)), str)

    def test_they_are_what_the_patterns_are(self):
        for deck in settled_decks()[::4]:
            rows = [row.split(" ") for row in patterns_text(deck).split(" / ")]
            self.assertEqual([[None if name == "." else name for name in row] for row in rows], patterns(deck))

    def test_each_form_is_told_the_same(self):
        for form in all_forms(FIVE):
            self.assertEqual(patterns_text(form), ". / . . / . a . / . d b / e c")

    def test_not_settled(self):
        for deck in chance_decks(60, 332) + lively_decks(60, 333) + small_decks(3, 4):
            self.assertIs(refusal(patterns_text, deck), NotSettled if away_by_hand(deck) else None)

    def test_no_deck(self):
        for thing in NO_DECKS:
            self.assertIs(refusal(patterns_text, thing), NoDeck, thing)


if __name__ == "__main__":
    unittest.main()
