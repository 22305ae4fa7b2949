"""Promise 31: desks and their rows; 4, that a desk tells what the functions of the other parts tell."""

import inspect
import unittest
from random import Random

from slideback.comings import comings, fate
from slideback.decks import deepened, drawn, laid
from slideback.desk import Desk
from slideback.errors import (
    DeckError, Full, Last, NoDeck, NoForm, NoName, NoneYet, NoPlace, NoText, NotSettled, Twice,
)
from slideback.far import deck_at, how_often, seen_at, when_seen
from slideback.levels import closed_place
from slideback.rounds import round_of, share
from slideback.texts import deck_text, patterns_text, read_deck
from tests.common import (
    HUGE, chance_decks, crowded_deck, deck_with, gone_by_hand, late_deck, lively_decks, plateau_deck, refusal,
    rising_deck,
)

FIVE = "a:4 b:2 c:2 d:0 e:1"
TURNING = "a:1 b:2 c:2"

NO_FORMS = [
    "", " ", "  ", "\n", "x", "nothing", "Show", "SHOW", "shows", "show ", " show", "show 1", "show a", "show\n",
    "deck", "Deck a:1", " deck a:1", "deck\na:1", "decks a:1", "deck:a:1", "d a:1",
    "go", "go ", "go a", "go -1", "go +1", "go 01", "go 00", "go 1.0", "go 1 ", "go  1", " go 1", "go 1 1", "go 1\n",
    "go1", "go 1e3", "go 1_0", "go none", "go go", "go \n1", "go 0x1",
    "lay", "lay x", "lay x 1", "lay x 1 ", "lay x 1 0 ", "lay x 1 0 0", "lay  x 1 0", "lay x  1 0", "lay X 1 0",
    "lay x1 1 0", "lay abcdefghi 1 0", "lay 1 x 0", "lay x x 0", "lay x 1 x", "lay x 01 0", "lay x 1 00", "lay x -1 0",
    "lay x 1 -1", "lay x:1 0", "lay : 1 0",
    "draw", "draw ", "draw A", "draw a b", "draw a ", "draw  a", "draw abcdefghi", "draw 1", "draw a1", "draw a:1",
    "deepen", "deepen a", "deepen a ", "deepen a b", "deepen a 01", "deepen a -1", "deepen a 1 ", "deepen a 1 1",
    "deepen 1 a", "deepen 1 1", "deepen A 1", "deepen abcdefghi 1",
    "at", "at ", "at a", "at -1", "at 01", "at 1 1", "at 1 ", "at  1",
    "often", "often a", "often a ", "often a b", "often 1 a", "often a 01", "often a 1 1", "often a -1", "often A 1",
    "often a 1 ", "often  a 1", "often 1",
    "when", "when a", "when a b", "when 1 a", "when a 01", "when a 1 1", "when a -1", "when A 1", "when a 1 ", "when 1",
    "homes ", "homes a", "homes 1", "Homes", "home", "closed ", "closed 1", "closed a", "close",
    "fate", "fate ", "fate 1", "fate a b", "fate A", "fate a ", "fate abcdefghi",
    "round ", "round 1", "round a", "rounds", "share", "share ", "share 1", "share a b", "share A", "share abcdefghi",
    "rings ", "rings a", "rings 1", "ring", "undo ", "undo 1", "undo a", "Undo", " undo", "undo\n", "undoes", "redo",
]

NO_TEXTS = [None, True, False, 0, 1, 1.5, b"show", ["show"], ("show",), [], (), {}, {"show": 1}, {"show"}, object()]


def desk_with(text):
    """A desk with the deck of a text."""
    desk = Desk()
    assert desk.say("deck " + text) == "ok"
    return desk


def said(desk, *rows):
    """The answers to some rows, in their order."""
    return [desk.say(row) for row in rows]


class Deeds(unittest.TestCase):
    def test_the_first_deck(self):
        desk = Desk()
        self.assertEqual(said(desk, "show", "closed", "rings", "homes", "round"), ["top:0", "1", "top", "none", "0 1"])
        self.assertEqual(said(desk, "at 7", "often top 9", "when top 3"), ["top", "9", "3"])
        self.assertEqual(said(desk, "fate top", "share top"), ["ever", "1/1"])

    def test_deck(self):
        desk = Desk()
        self.assertEqual(said(desk, "deck " + FIVE, "show"), ["ok", FIVE])
        self.assertEqual(said(desk, "deck x:0", "show"), ["ok", "x:0"])
        for deck in chance_decks(40, 340):
            self.assertEqual(said(desk, "deck " + deck_text(deck), "show"), ["ok", deck_text(deck)])

    def test_go(self):
        desk = desk_with(TURNING)
        self.assertEqual(said(desk, "go 1", "show"), ["a", "b:2 a:1 c:2"])
        self.assertEqual(said(desk, "go 2", "show"), ["a", "c:2 a:1 b:2"])
        self.assertEqual(said(desk, "go 0", "show"), ["none", "c:2 a:1 b:2"])
        self.assertEqual(said(desk, "go 1", "show"), ["c", TURNING])
        self.assertEqual(said(desk, "go " + str(4 * HUGE), "show"), ["c", TURNING])

    def test_go_far(self):
        for deck in (rising_deck(40), late_deck(40, 37), plateau_deck(12), crowded_deck()):
            for steps in (1, 2, 500, 10 ** 9, 10 ** 29 + 1, HUGE):
                desk = desk_with(deck_text(deck))
                self.assertEqual(desk.say(f"go {steps}"), seen_at(deck, steps - 1))
                self.assertEqual(desk.say("show"), deck_text(deck_at(deck, steps)))

    def test_lay_draw_and_deepen(self):
        desk = desk_with(TURNING)
        self.assertEqual(said(desk, "lay x 7 1", "show"), ["ok", "a:1 x:7 b:2 c:2"])
        self.assertEqual(said(desk, "lay abcdefgh 0 4", "show"), ["ok", "a:1 x:7 b:2 c:2 abcdefgh:0"])
        self.assertEqual(said(desk, "lay y 10 0", "show"), ["ok", "y:10 a:1 x:7 b:2 c:2 abcdefgh:0"])
        self.assertEqual(said(desk, "draw y", "draw abcdefgh", "show"), ["ok", "ok", "a:1 x:7 b:2 c:2"])
        self.assertEqual(said(desk, "deepen x 0", "show"), ["ok", "a:1 x:0 b:2 c:2"])
        self.assertEqual(said(desk, f"deepen c {HUGE}", "show"), ["ok", f"a:1 x:0 b:2 c:{HUGE}"])


class Questions(unittest.TestCase):
    def test_each_of_a_deck_with_cards_away(self):
        desk = desk_with(FIVE)
        self.assertEqual(desk.say("show"), FIVE)
        self.assertEqual(said(desk, "at 0", "at 1", "at 2", "at 3", "at 9"), ["a", "b", "c", "d", "d"])
        self.assertEqual(said(desk, "often a 0", "often a 1", "often d 10", "often e 99"), ["0", "1", "7", "0"])
        self.assertEqual(said(desk, "when a 0", "when a 1", "when d 0", "when d 5"), ["0", "none", "3", "8"])
        self.assertEqual(said(desk, "when e 0", "when e 7"), ["none", "none"])
        self.assertEqual(said(desk, "homes", "closed"), ["2 d", "5"])
        self.assertEqual(said(desk, "fate b", "fate d", "fate e"), ["last 1", "ever", "never"])
        self.assertEqual(said(desk, "round", "share d", "share a"), ["3 1", "1/1", "0/1"])
        self.assertEqual(desk.say("show"), FIVE)

    def test_each_of_a_settled_deck(self):
        desk = desk_with(TURNING)
        self.assertEqual(said(desk, "homes", "closed", "round"), ["none", "3", "0 4"])
        self.assertEqual(said(desk, "share a", "share b", "share c"), ["1/2", "1/4", "1/4"])
        self.assertEqual(desk.say("rings"), ". / a . / b c")
        self.assertEqual(said(desk, f"when a {HUGE}", f"often b {4 * HUGE}"), [str(2 * HUGE), str(HUGE)])

    def test_homes_name_by_name(self):
        self.assertEqual(desk_with("m:3 z:0 b:1 k:3").say("homes"), "0 b; 0 z")
        self.assertEqual(desk_with("a:5 b:5 c:5 d:2 e:1 f:0").say("homes"), "0 d; 2 e; 4 f")
        deck = late_deck(40, 38)
        self.assertEqual(desk_with(deck_text(deck)).say("homes"), f"{2 ** 38 - 1} {deck[39][0]}")

    def test_a_question_changes_nothing(self):
        desk = desk_with(FIVE)
        desk.say("go 1")
        before = desk.say("show")
        for row in ("at 5", "often a 5", "when a 5", "homes", "closed", "fate a", "round", "share a", "show"):
            first = desk.say(row)
            self.assertEqual(said(desk, row, "show"), [first, before])
        # The last two deeds are what there is to undo.
        self.assertEqual(said(desk, "undo", "show", "undo", "show"), ["ok", FIVE, "ok", "top:0"])


class AsTheOtherPartsTell(unittest.TestCase):
    """Promise 4: what a desk answers is what the functions of the other parts tell of the same deck."""

    def check(self, desk, deck, steps):
        """Ask a desk all that there is to ask of its deck."""
        self.assertEqual(desk.say("show"), deck_text(deck))
        self.assertEqual(desk.say(f"at {steps}"), seen_at(deck, steps))
        self.assertEqual(desk.say("closed"), str(closed_place(deck)))
        told = [f"{step} {name}" for step, names in comings(deck) for name in names]
        self.assertEqual(desk.say("homes"), "; ".join(told) or "none")
        self.assertEqual(desk.say("round"), "{} {}".format(*round_of(deck)))
        if told:
            self.assertIs(refusal(desk.say, "rings"), NotSettled)
        else:
            self.assertEqual(desk.say("rings"), patterns_text(deck))
        for name, _ in deck[:3] + deck[-2:]:
            self.assertEqual(desk.say(f"often {name} {steps}"), str(how_often(deck, steps, name)))
            step = when_seen(deck, name, steps)
            self.assertEqual(desk.say(f"when {name} {steps}"), "none" if step is None else str(step))
            self.assertEqual(desk.say(f"fate {name}"), " ".join(map(str, fate(deck, name))))
            self.assertEqual(desk.say(f"share {name}"), "{}/{}".format(*share(deck, name)))

    def test_near_and_far(self):
        chance = Random(341)
        decks = chance_decks(30, 342) + lively_decks(30, 343) + [rising_deck(40), late_deck(40, 37), plateau_deck(12)]
        desk = Desk()
        for deck in decks + [crowded_deck()]:
            desk.say("deck " + deck_text(deck))
            for steps in (0, 1, chance.randrange(100), chance.randrange(HUGE), HUGE):
                self.check(desk, deck, steps)
            steps = chance.choice([3, chance.randrange(HUGE)])
            desk.say(f"go {steps}")
            self.check(desk, deck_at(deck, steps), chance.randrange(HUGE))

    def test_what_a_desk_tells_may_be_told_to_it(self):
        deck = crowded_deck()
        desk = desk_with(deck_text(deck))
        first, length = desk.say("round").split(" ")
        step = desk.say(f"when {deck[0][0]} 0")
        self.assertEqual(desk.say("at " + step), deck[0][0])
        for one in desk.say("homes").split("; "):
            step, name = one.split(" ")
            desk.say("go " + step)
            self.assertEqual(desk.say("homes").split("; ")[0].split(" ")[0], "0")
            self.assertIn("0 " + name, desk.say("homes").split("; "))
            desk.say("undo")
        desk.say("go " + first)
        settled = desk.say("show")
        self.assertEqual(said(desk, "homes", "go " + length, "show")[::2], ["none", settled])

    def test_scripts(self):
        for seed in range(12):
            self.check_script(Random(344 + seed))

    def check_script(self, chance):
        """Say many rows to a desk, good ones and others, and follow them by the functions of the other parts."""
        desk = Desk()
        decks = [(("top", 0),)]
        for _ in range(120):
            deck = decks[-1]
            name = chance.choice([deck[0][0], deck[-1][0], chance.choice("abcdxyz"), "top"])
            depth, steps = chance.randrange(9), chance.choice([0, 1, 5, chance.randrange(HUGE)])
            place = chance.randrange(12)
            row, call, answer = chance.choice([
                (f"lay {name} {depth} {place}", lambda: laid(deck, (name, depth), place), "ok"),
                (f"draw {name}", lambda: drawn(deck, name), "ok"),
                (f"deepen {name} {depth}", lambda: deepened(deck, name, depth), "ok"),
                (f"go {steps}", lambda: deck_at(deck, steps), seen_at(deck, steps - 1) if steps else "none"),
                (f"deck {TURNING}", lambda: read_deck(TURNING), "ok"),
                ("deck a:1 a:2", lambda: read_deck("a:1 a:2"), "ok"),
                ("undo", None, "ok"),
            ])
            if row == "undo":
                if len(decks) == 1:
                    self.assertIs(refusal(desk.say, row), NoneYet)
                else:
                    self.assertEqual(desk.say(row), answer)
                    decks.pop()
            elif refusal(call):
                self.assertIs(refusal(desk.say, row), refusal(call), row)
            else:
                self.assertEqual(desk.say(row), answer, row)
                decks.append(call())
            self.assertEqual(desk.say("show"), deck_text(decks[-1]))
        while len(decks) > 1:
            self.assertEqual(desk.say("undo"), "ok")
            decks.pop()
            self.assertEqual(desk.say("show"), deck_text(decks[-1]))
        self.assertIs(refusal(desk.say, "undo"), NoneYet)


class Undo(unittest.TestCase):
    def test_each_deed_down_to_the_first_deck(self):
        desk = Desk()
        rows = ["deck " + TURNING, "go 3", "lay x 5 2", "go 0", "draw b", "deepen a 9", "go 1000000"]
        rows += ["deck y:0", "deck y:0"]
        shown = [desk.say("show")]
        for row in rows:
            desk.say(row)
            shown.append(desk.say("show"))
        self.assertEqual(shown[-1], "y:0")
        for due in shown[-2::-1]:
            self.assertEqual(said(desk, "undo", "show"), ["ok", due])
        self.assertEqual(desk.say("show"), "top:0")
        for _ in range(3):
            self.assertIs(refusal(desk.say, "undo"), NoneYet)
            self.assertEqual(desk.say("show"), "top:0")

    def test_nothing_to_undo_at_first(self):
        self.assertIs(refusal(Desk().say, "undo"), NoneYet)

    def test_go_0_is_a_deed(self):
        desk = desk_with(TURNING)
        self.assertEqual(said(desk, "go 0", "go 0", "undo", "show"), ["none", "none", "ok", TURNING])
        self.assertEqual(said(desk, "undo", "show"), ["ok", TURNING])
        self.assertEqual(said(desk, "undo", "show"), ["ok", "top:0"])
        self.assertIs(refusal(desk.say, "undo"), NoneYet)

    def test_deeds_behind_what_is_undone(self):
        desk = desk_with(TURNING)
        said(desk, "draw a", "undo", "draw b", "draw c", "undo")
        self.assertEqual(said(desk, "show", "undo", "show", "undo", "show"), ["a:1 c:2", "ok", TURNING, "ok", "top:0"])

    def test_undo_is_not_undone(self):
        desk = desk_with(TURNING)
        self.assertEqual(said(desk, "draw a", "undo", "undo", "show"), ["ok", "ok", "ok", "top:0"])
        self.assertIs(refusal(desk.say, "undo"), NoneYet)


class Refused(unittest.TestCase):
    def check_refused(self, desk, row, why):
        """A row is refused, and neither the deck nor what there is to undo is another."""
        before = desk.say("show")
        self.assertIs(refusal(desk.say, row), why, row)
        self.assertEqual(desk.say("show"), before)

    def test_rows_of_no_form(self):
        desk = desk_with(TURNING)
        for row in NO_FORMS:
            with self.subTest(row=row):
                self.check_refused(desk, row, NoForm)
        self.assertEqual(said(desk, "undo", "show"), ["ok", "top:0"])
        self.assertIs(refusal(desk.say, "undo"), NoneYet)

    def test_rows_of_no_form_where_nothing_is_left_to_undo(self):
        desk = Desk()
        for row in NO_FORMS:
            self.check_refused(desk, row, NoForm)
        self.assertIs(refusal(desk.say, "undo"), NoneYet)

    def test_what_is_no_text(self):
        desk = desk_with(TURNING)
        for thing in NO_TEXTS:
            self.check_refused(desk, thing, NoForm)
        self.assertEqual(said(desk, "undo", "show"), ["ok", "top:0"])

    def test_texts_of_no_deck(self):
        desk = desk_with(TURNING)
        for text, place in (
            ("", 0), (" ", 0), ("a", 0), (" a:1", 0), ("a:1 ", 1), ("a:1  b:1", 1), ("a:1 b:01", 1), ("a:1\n", 0),
            ("\n", 0), ("a:1 a:1 b", 2), ("show", 0), ("abcdefghi:1", 0),
        ):
            self.check_refused(desk, "deck " + text, NoText)
            with self.assertRaises(NoText) as told:
                desk.say("deck " + text)
            self.assertEqual(told.exception.place, place, text)
        for text in ("a:1 a:1", "a:1 b:1 a:2", " ".join(f"{name}:1" for name, _ in deck_with([0] * 41))):
            self.check_refused(desk, "deck " + text, NoDeck)
        self.assertEqual(said(desk, "undo", "show"), ["ok", "top:0"])

    def test_what_the_other_parts_refuse(self):
        desk = desk_with(FIVE)
        for row, why in (
            ("lay a 1 0", Twice), ("lay a 1 99", Twice), ("lay x 1 6", NoPlace), ("lay x 1 " + "9" * 30, NoPlace),
            ("draw x", NoName), ("draw abcdefgh", NoName), ("deepen x 1", NoName), ("often x 1", NoName),
            ("when x 1", NoName), ("fate x", NoName), ("share x", NoName), ("rings", NotSettled),
        ):
            self.check_refused(desk, row, why)
        self.assertEqual(said(desk, "undo", "show"), ["ok", "top:0"])
        self.check_refused(desk, "draw top", Last)
        self.check_refused(desk, "draw x", NoName)
        self.assertIs(refusal(desk.say, "undo"), NoneYet)
        desk.say("deck " + deck_text(rising_deck(40)))
        self.check_refused(desk, "lay x 1 0", Full)
        self.check_refused(desk, "lay x 1 40", Full)
        self.check_refused(desk, "lay x 1 41", NoPlace)
        self.check_refused(desk, "lay aa 1 41", Twice)
        self.assertEqual(said(desk, "undo", "show"), ["ok", "top:0"])

    def test_each_refusal_is_a_deck_error(self):
        desk = Desk()
        others = ["undo", "deck a", "deck a:1 a:1", "draw top", "draw x", "lay top 1 0", "lay x 1 2"]
        for row in NO_FORMS + NO_TEXTS + others:
            with self.assertRaises(DeckError):
                desk.say(row)
        self.assertEqual(desk.say("show"), "top:0")

    def test_it_goes_on_behind_a_refusal(self):
        desk = desk_with(TURNING)
        for row in ("go x", "lay a 1 1", "draw x", "deck a", "deepen x 1"):
            self.assertIsNotNone(refusal(desk.say, row))
            self.assertEqual(said(desk, "go 1", "undo", "show"), ["a", "ok", TURNING])


class Desks(unittest.TestCase):
    def test_two_know_nothing_of_one_another(self):
        one, other = Desk(), Desk()
        one.say("deck " + TURNING)
        self.assertEqual(other.say("show"), "top:0")
        self.assertIs(refusal(other.say, "undo"), NoneYet)
        other.say("deck " + FIVE)
        one.say("go 1")
        self.assertEqual((one.say("show"), other.say("show")), ("b:2 a:1 c:2", FIVE))
        other.say("undo")
        self.assertIs(refusal(other.say, "undo"), NoneYet)
        self.assertEqual(said(one, "undo", "show", "undo", "show"), ["ok", TURNING, "ok", "top:0"])
        self.assertEqual(said(Desk(), "show"), ["top:0"])

    def test_the_same_rows_are_answered_alike(self):
        rows = ["deck " + FIVE, "go 1", "homes", "lay x 3 0", "show", "round", "undo", "fate a", "undo", "undo"]
        self.assertEqual(said(Desk(), *rows), said(Desk(), *rows))

    def test_answers_are_texts(self):
        desk = Desk()
        rows = ["deck " + TURNING, "go 0", "go 7", "lay x 1 0", "draw x", "deepen a 1", "show", "at 5", "often a 5"]
        rows += ["when a 5", "homes", "closed", "fate a", "round", "share a", "rings", "undo"]
        self.assertEqual({type(desk.say(row)) for row in rows}, {str})

    def test_rows_as_by_hand(self):
        for deck in lively_decks(30, 345, 2, 12):
            desk = desk_with(deck_text(deck))
            names, behind = gone_by_hand(deck, 50)
            self.assertEqual([desk.say(f"at {step}") for step in range(50)], names)
            self.assertEqual(desk.say("go 50"), names[49])
            self.assertEqual(desk.say("show"), deck_text(behind))
            desk.say("undo")
            self.assertEqual([desk.say("go 1") for _ in range(50)], names)
            self.assertEqual(desk.say("show"), deck_text(behind))

    def test_say_is_defined_in_the_class(self):
        self.assertTrue(inspect.isclass(Desk))
        self.assertEqual(Desk.__module__, "slideback.desk")
        self.assertIn("say", vars(Desk))


if __name__ == "__main__":
    unittest.main()
