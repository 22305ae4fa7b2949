"""Promises 27, 28 and 29: depths that let a row be seen, all of them, and depths by which a name is seen."""

import unittest
from itertools import product
from random import Random

from slideback.decks import row_seen
from slideback.errors import NoDeck, NoDepths, NoName, NoNames, NoRow, NoStep, TooMany
from slideback.far import seen_at
from slideback.seen import all_depths, depths_let, wished
from tests.common import (
    HUGE, NO_COUNTS, NO_DECKS, NO_DEPTHS, NO_NAMES, GoneByHand, all_forms, deck_with, far_steps, gone_by_hand, letters,
    lively_decks, refusal, small_decks,
)

FORTY = [letters(number) for number in range(40)]

NO_LISTS = [None, True, 0, 1, HUGE, "", "a", "ab", b"ab", 1.5, {}, {"a": 1}, {"a", "b"}, range(2), {"a": 1, "b": 2}]

NOT_NAMES = (
    NO_LISTS + [[], (), ["a", "a"], ("a", "b", "a"), ["b", "a", "c", "b"], [["a"]], [("a", 1)], ("a", ["b"])]
    + [FORTY + ["zz"], tuple(FORTY) + ("zz",), FORTY * 2, FORTY + FORTY[:1]]
    + [[name] for name in NO_NAMES] + [["x", name] for name in NO_NAMES] + [(name, "x", "y") for name in NO_NAMES]
)


def letting_by_hand(names, row, depths):
    """Whether the first steps of the deck of these names and depths see the row."""
    return gone_by_hand(tuple(zip(names, depths)), len(row))[0] == list(row)


def all_by_hand(names, row):
    """All depths below the number of names that let the row be seen, sorted."""
    choices = product(range(len(names)), repeat=len(names))
    return [depths for depths in choices if letting_by_hand(names, row, depths)]


def otherwise(row, names, chance):
    """A row with a name otherwise, out, twice, exchanged or more."""
    row = list(row)
    at = chance.randrange(len(row) + 1)
    way = chance.randrange(5)
    if way == 0 or not row:
        row.insert(at, chance.choice(names))
    elif way == 1:
        row[at % len(row)] = chance.choice(names)
    elif way == 2:
        row.pop(at % len(row))
    elif way == 3:
        row.insert(at % len(row), row[at % len(row)])
    else:
        with_ = chance.randrange(len(row))
        row[at % len(row)], row[with_] = row[with_], row[at % len(row)]
    return row


class DepthsLet(unittest.TestCase):
    def test_few_names(self):
        self.assertIs(depths_let(["a", "b", "c"], ["a", "b", "a", "c", "a"], [1, 2, 2]), True)
        self.assertIs(depths_let(["a", "b", "c"], ["a", "b", "a", "c", "b"], [1, 2, 2]), False)
        self.assertIs(depths_let(["a"], ["a", "a", "a"], [0]), True)
        self.assertIs(depths_let(["a", "b"], ["a", "a"], [0, 0]), True)
        self.assertIs(depths_let(["a", "b"], ["a", "a"], [1, 0]), False)
        self.assertIs(depths_let(["a", "b"], ["b"], [0, 0]), False)

    def test_no_row_at_all(self):
        for row in ([], ()):
            self.assertIs(depths_let(["a"], row, [0]), True)
            self.assertIs(depths_let(FORTY, row, [0] * 40), True)

    def test_depths_above_the_names(self):
        self.assertIs(depths_let(["a", "b"], ["a", "b", "a"], [HUGE, 7]), True)
        self.assertIs(depths_let(["a", "b", "c"], ["a", "b", "c"], [3, HUGE, 0]), True)
        self.assertIs(depths_let(["a"], ["a", "a"], [HUGE]), True)

    def test_one_name_and_forty(self):
        self.assertIs(depths_let(["abcdefgh"], ["abcdefgh"] * 300, [5]), True)
        self.assertIs(depths_let(FORTY, FORTY * 7, [39] * 40), True)
        self.assertIs(depths_let(FORTY, FORTY * 7, [39] * 39 + [38]), False)
        self.assertIs(depths_let(FORTY, FORTY[:1] * 300, [0] + [39] * 39), True)

    def test_rows_that_are_seen(self):
        for deck in lively_decks(40, 300, 1) + small_decks(3, 4):
            names = [name for name, _ in deck]
            depths = [depth for _, depth in deck]
            for steps in (1, 2, 17, 300):
                self.assertIs(depths_let(names, gone_by_hand(deck, steps)[0], depths), True)

    def test_rows_that_are_told_may_be_handed_in(self):
        for deck in lively_decks(6, 301, 1):
            names = [name for name, _ in deck]
            depths = [depth for _, depth in deck]
            row = row_seen(deck, 2000)
            self.assertIs(depths_let(names, row, depths), True)
            row[-1] = next(name for name in names if name != row[-1]) if len(names) > 1 else row[-1]
            self.assertIs(depths_let(names, row, depths), len(names) == 1)

    def test_rows_with_a_name_otherwise(self):
        chance = Random(302)
        told = {True: 0, False: 0}
        for deck in lively_decks(100, 303, 1, 12) + small_decks(3, 3) + small_decks(2, 3):
            names = [name for name, _ in deck]
            depths = [depth for _, depth in deck]
            for steps in (1, 3, 12):
                row = otherwise(gone_by_hand(deck, steps)[0], names, chance)
                due = letting_by_hand(names, row, depths)
                self.assertIs(depths_let(names, row, depths), due)
                told[due] += 1
        self.assertGreater(min(told.values()), 30)

    def test_each_row_of_few_names(self):
        for names in (["b", "a"], ["c", "a", "b"]):
            for depths in product(range(4), repeat=len(names)):
                for size in range(5):
                    for row in product(names, repeat=size):
                        self.assertIs(depths_let(names, row, depths), letting_by_hand(names, row, depths))

    def test_lists_and_tuples(self):
        for kind in (list, tuple):
            for other in (list, tuple):
                for third in (list, tuple):
                    told = depths_let(kind("abc"), other("abaca"), third([1, 2, 2]))
                    self.assertIs(told, True)

    def test_no_names(self):
        for thing in NOT_NAMES:
            with self.subTest(thing=thing):
                self.assertIs(refusal(depths_let, thing, [], [0]), NoNames)
                self.assertIs(refusal(depths_let, thing, ["a"], [0]), NoNames)
                self.assertIs(refusal(depths_let, thing, None, None), NoNames)

    def test_no_row(self):
        for names in (["a", "b"], ("a",), FORTY):
            for thing in NO_LISTS + [["zz"], ["a", "zz"], ("a", "zz", "a"), [["a"]], [("a",)], ["a", None], [0], ["A"]]:
                self.assertIs(refusal(depths_let, names, thing, [0] * len(names)), NoRow, thing)
                self.assertIs(refusal(depths_let, names, thing, None), NoRow, thing)
            for name in NO_NAMES:
                self.assertIs(refusal(depths_let, names, [name], [0] * len(names)), NoRow, name)
                self.assertIs(refusal(depths_let, names, [names[0], name], [0]), NoRow, name)

    def test_no_depths(self):
        for thing in NO_LISTS + [[], [0], (0,), [0, 0, 0], [0, [0]], [(0, 0)], [[0, 0]]]:
            self.assertIs(refusal(depths_let, ["a", "b"], ["a"], thing), NoDepths, thing)
            # Depths are asked for though the row is not seen by any.
            self.assertIs(refusal(depths_let, ["a", "b"], ["b"], thing), NoDepths, thing)
            self.assertIs(refusal(depths_let, ["a", "b"], [], thing), NoDepths, thing)
        for depth in NO_DEPTHS:
            self.assertIs(refusal(depths_let, ["a", "b"], ["a"], [0, depth]), NoDepths, depth)
            self.assertIs(refusal(depths_let, ["a", "b"], ["a"], (depth, 0)), NoDepths, depth)
        self.assertIs(refusal(depths_let, FORTY, FORTY, [39] * 39), NoDepths)
        self.assertIs(refusal(depths_let, FORTY, FORTY, [39] * 41), NoDepths)


class AllDepths(unittest.TestCase):
    def test_few_names(self):
        self.assertEqual(all_depths(["a", "b"], ["a", "b", "a"]), [(1, 1)])
        self.assertEqual(all_depths(["a", "b"], ["a", "a"]), [(0, 0), (0, 1)])
        self.assertEqual(all_depths(["a", "b", "c"], ["a", "b", "a", "c", "a"]), [(1, 2, 1), (1, 2, 2)])
        self.assertEqual(all_depths(["a"], ["a", "a"]), [(0,)])

    def test_no_row_at_all(self):
        self.assertEqual(all_depths(["abc"], []), [(0,)])
        self.assertEqual(all_depths(["b", "a"], ()), [(0, 0), (0, 1), (1, 0), (1, 1)])
        self.assertEqual(all_depths("a b c d".split(), []), list(product(range(4), repeat=4)))

    def test_none(self):
        # Out of order, and a name that goes back to two depths.
        for names, row in (("ab", "b"), ("abc", "ac"), ("abcd", "b"), ("ab", "abaa"), ("abc", "aaba")):
            self.assertEqual(all_by_hand(names, row), [])
            told = all_depths(list(names), list(row))
            self.assertEqual(told, [])
            self.assertIs(type(told), list)
        # None, where the other names leave more than a thousand.
        self.assertEqual(all_depths(list("abcde"), list("aaba")), [])

    def test_all_rows_of_few_names(self):
        for names, most in ((["x"], 4), (["b", "a"], 7), (["c", "a", "b"], 6)):
            for size in range(most + 1):
                for row in product(names, repeat=size):
                    self.assertEqual(all_depths(names, row), all_by_hand(names, row))

    def test_four_names_by_sliding(self):
        chance = Random(310)
        names = list("dacb")
        found = 0
        for depths in product(range(5), repeat=4):
            row = gone_by_hand(tuple(zip(names, depths)), chance.randint(0, 9))[0]
            for one in (row, otherwise(row, names, chance)):
                told = all_depths(names, one)
                self.assertEqual(told, all_by_hand(names, one))
                found += len(told) > 1
            self.assertIn(tuple(min(depth, 3) for depth in depths), all_depths(names, row))
        self.assertGreater(found, 200)

    def test_five_names_by_sliding(self):
        chance = Random(311)
        names = list("edcba")
        for _ in range(25):
            depths = [chance.randint(0, 5) for _ in names]
            row = gone_by_hand(tuple(zip(names, depths)), chance.randint(4, 40))[0]
            for one in (row, otherwise(row, names, chance)):
                due = all_by_hand(names, one)
                if len(due) <= 1000:
                    self.assertEqual(all_depths(names, one), due)

    def test_long_rows(self):
        for deck in small_decks(4, 4)[::7]:
            names = [name for name, _ in deck]
            row = gone_by_hand(deck, 300)[0]
            told = all_depths(names, row)
            self.assertIn(tuple(depth for _, depth in deck), told)
            self.assertEqual(told, all_by_hand(names, row))
        row = row_seen(deck_with(range(1, 6)), 2000)
        self.assertEqual(all_depths(FORTY[:5], row), [(1, 2, 3, 4, 4)])

    def test_many_names(self):
        # Few depths let a long row be seen, however many names there are.
        self.assertEqual(all_depths(FORTY, FORTY * 2), [(39,) * 40])
        self.assertEqual(all_depths(FORTY, FORTY * 2 + FORTY[1:2]), [])
        self.assertEqual(all_depths(FORTY, FORTY[::-1]), [])

    def test_a_thousand_are_told(self):
        # Those that are seen in turn have one depth each; those that are not seen may have any.
        for many, free, told in ((10, 3, 1000), (31, 2, 961), (5, 4, 625), (40, 1, 40)):
            turning = many - free
            due = [(turning - 1,) * turning + rest for rest in product(range(many), repeat=free)]
            self.assertEqual(len(due), told)
            # Of so long lists no difference is to be shown.
            self.assertTrue(all_depths(FORTY[:many], FORTY[:turning] * 2) == due)
        self.assertIs(refusal(all_depths, FORTY[:32], FORTY[:30] * 2), TooMany)

    def test_more_than_a_thousand_are_refused(self):
        for names in (list("abcde"), tuple("edcba"), FORTY):
            self.assertIs(refusal(all_depths, names, []), TooMany)
        names = list("abcde")
        self.assertEqual(len(all_by_hand(names, ["a"])), 3125)
        self.assertIs(refusal(all_depths, names, ["a"]), TooMany)
        self.assertEqual(len(all_by_hand(names, ["a", "b"])), 2500)
        self.assertIs(refusal(all_depths, names, ("a", "b")), TooMany)
        self.assertEqual(len(all_depths(names, ["a", "a"])), 625)
        self.assertEqual(len(all_depths(names, ["a", "b", "c", "d"])), len(all_by_hand(names, "abcd")))

    def test_around_a_thousand(self):
        chance = Random(312)
        names = list("abcde")
        told = set()
        for _ in range(60):
            depths = [chance.randint(0, 5) for _ in names]
            row = gone_by_hand(tuple(zip(names, depths)), chance.randint(1, 5))[0]
            due = all_by_hand(names, row)
            if len(due) > 1000:
                self.assertIs(refusal(all_depths, names, row), TooMany)
            else:
                self.assertEqual(all_depths(names, row), due)
            told.add(len(due) > 1000)
        self.assertEqual(told, {True, False})

    def test_the_kinds_that_are_told(self):
        for names in (["a", "b", "c"], ("a", "b", "c")):
            for row in (["a", "b"], ("a", "b")):
                told = all_depths(names, row)
                self.assertIs(type(told), list)
                self.assertEqual({type(depths) for depths in told}, {tuple})
                self.assertEqual({type(depth) for depths in told for depth in depths}, {int})
                self.assertEqual(told, sorted(told))
                for depths in told:
                    self.assertIs(depths_let(names, row, depths), True)

    def test_no_names(self):
        for thing in NOT_NAMES:
            self.assertIs(refusal(all_depths, thing, []), NoNames, thing)
            self.assertIs(refusal(all_depths, thing, ["a"]), NoNames, thing)
            self.assertIs(refusal(all_depths, thing, None), NoNames, thing)

    def test_no_row(self):
        for names in (["a", "b"], ("a",), FORTY):
            for thing in NO_LISTS + [["zz"], ["a", "zz"], ("a", "zz", "a"), [["a"]], [("a",)], ["a", None], [0], ["A"]]:
                self.assertIs(refusal(all_depths, names, thing), NoRow, thing)
            for name in NO_NAMES:
                self.assertIs(refusal(all_depths, names, [name]), NoRow, name)


def wished_by_hand(deck, step, name):
    """The least depths of those with the fewest others, of all there are."""
    own = tuple(depth for _, depth in deck)
    choices = [sorted({depth} | set(range(len(deck)))) for depth in own]
    found = []
    for depths in product(*choices):
        gone = GoneByHand(tuple(zip([one for one, _ in deck], depths)))
        if gone.names[gone.index(step)] == name:
            found.append((sum(mine != depth for mine, depth in zip(own, depths)), depths))
    return min(found)[1] if found else None


class Wished(unittest.TestCase):
    def test_its_own_depths_where_it_is_seen_already(self):
        for deck in lively_decks(60, 320, 1, 5) + [(("a", HUGE), ("b", HUGE), ("c", 7))]:
            for step in far_steps(4, 321) + [0, 1, 2]:
                self.assertEqual(wished(deck, step, seen_at(deck, step)), tuple(depth for _, depth in deck))

    def test_of_many_cards_too(self):
        for deck in lively_decks(20, 322, 20, 40):
            for step in far_steps(2, 323):
                self.assertEqual(wished(deck, step, seen_at(deck, step)), tuple(depth for _, depth in deck))

    def test_none_where_there_is_none(self):
        deck = (("a", 1), ("b", 2), ("c", 2))
        self.assertIsNone(wished(deck, 0, "b"))
        self.assertIsNone(wished(deck, 0, "c"))
        self.assertIsNone(wished(deck, 1, "c"))
        self.assertIsNone(wished(deck_with([0] * 5), 3, "ae"))

    def test_few_cards(self):
        deck = (("a", 1), ("b", 2), ("c", 2))
        self.assertEqual(wished(deck, 2, "a"), (1, 2, 2))
        self.assertEqual(wished(deck, 2, "c"), (2, 2, 2))
        self.assertEqual(wished(deck, 2, "b"), (1, 0, 2))
        self.assertEqual(wished(deck, 1, "a"), (0, 2, 2))
        self.assertEqual(wished([["a", 0], ["b", 0]], 1, "b"), (1, 0))
        self.assertEqual(wished([["a", 4]], HUGE, "a"), (4,))

    def test_depths_as_they_are_go_with_others(self):
        # A depth that is more than a reach stays, though a lesser one would do the same.
        deck = (("a", 9), ("b", 8), ("c", 7))
        self.assertEqual(wished(deck, 3, "a"), (9, 8, 7))
        self.assertEqual(wished(deck, 3, "b"), wished_by_hand(deck, 3, "b"))
        self.assertEqual(wished(deck, 1, "a"), (0, 8, 7))

    def test_all_small_decks(self):
        several = 0
        for deck in small_decks(3, 4) + small_decks(2, 3) + small_decks(1, 2):
            for step in (0, 1, 2, 3, 5, 8, HUGE):
                for name, _ in deck:
                    told = wished(deck, step, name)
                    self.assertEqual(told, wished_by_hand(deck, step, name))
                    if told is not None:
                        several += sum(one != depth for one, (_, depth) in zip(told, deck)) > 1
        self.assertGreater(several, 10)

    def test_four_cards(self):
        for deck in small_decks(4, 6)[::83]:
            for step in (2, 3, 4, 6, 9, HUGE):
                for name, _ in deck:
                    self.assertEqual(wished(deck, step, name), wished_by_hand(deck, step, name))

    def test_five_cards(self):
        for deck in lively_decks(4, 324, 5, 5, odds=0.4):
            for step in (4, 7, 10 ** 29 + 3):
                for name, _ in deck:
                    told = wished(deck, step, name)
                    if told is None or sum(one != depth for one, (_, depth) in zip(told, deck)) > 1:
                        self.assertEqual(told, wished_by_hand(deck, step, name))
                    else:
                        there = tuple(zip([one for one, _ in deck], told))
                        self.assertEqual(seen_at(there, step), name)

    def test_far_ones_are_seen_there(self):
        for deck in lively_decks(20, 325, 5, 5, odds=0.3):
            for step in far_steps(2, 326):
                for name, _ in deck:
                    told = wished(deck, step, name)
                    there = tuple(zip([one for one, _ in deck], told))
                    self.assertEqual(seen_at(there, step), name)

    def test_the_kinds_that_are_told(self):
        for form in all_forms((("a", 1), ("b", 2), ("c", 2))):
            told = wished(form, 2, "b")
            self.assertEqual([type(thing) for thing in (told,) + told], [tuple, int, int, int])
            self.assertEqual(told, (1, 0, 2))

    def test_no_step(self):
        for thing in NO_COUNTS:
            for name in ("a", "z", None):
                self.assertIs(refusal(wished, (("a", 1), ("b", 2)), thing, name), NoStep)

    def test_no_name(self):
        for name in NO_NAMES + ["c", "aa", "ab"]:
            for step in (0, 5, HUGE):
                self.assertIs(refusal(wished, (("a", 1), ("b", 2)), step, name), NoName)

    def test_no_deck_goes_first(self):
        for thing in NO_DECKS:
            for step in (0, -1, None):
                for name in ("a", "q", None):
                    self.assertIs(refusal(wished, thing, step, name), NoDeck, thing)


if __name__ == "__main__":
    unittest.main()
