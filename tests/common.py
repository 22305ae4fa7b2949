"""What several tests share: decks, things that are none, and sliding written out anew."""

from copy import deepcopy
from itertools import product
from random import Random

HUGE = 10 ** 30 - 1

NO_NAMES = [
    "", "abcdefghi", "A", "aB", "a1", "1", "a b", " a", "a ", "a\n", "\n", "a-b", "a_b", "a.", "`", "{",
    "a{", "`a", None, 0, 1, True, False, 1.5, b"a", ["a"], ("a",), {"a": 1}, (), [],
]

NO_DEPTHS = [-1, -2, -HUGE, True, False, None, "", "0", "1", 0.0, 1.0, b"1", [], [1], (), (1,), {}]

NO_CARDS = (
    [None, 0, 1, True, "", "a", "a1", "ab", b"ab", 1.5, {}, {"a": 1}, {"a": 1, "b": 2}, {"a", "b"}]
    + [(), [], ("a",), ["a"], ("a", 1, 2), ["a", 1, 2], ("a", 1, "a", 1), (1, "a"), (("a", 1),), ("a", "b")]
    + [("a", 1, ()), ["ab", "cd"], ("a", (1,)), (("a",), 1), range(2)]
    + [(name, 1) for name in NO_NAMES]
    + [[name, 0] for name in NO_NAMES]
    + [("a", depth) for depth in NO_DEPTHS]
    + [["a", depth] for depth in NO_DEPTHS]
)


def letters(number):
    """A name of two small letters for a number from 0 to 675."""
    return chr(97 + number // 26) + chr(97 + number % 26)


def deck_with(depths):
    """The deck with these depths from the top on, names rising."""
    return tuple((letters(place), depth) for place, depth in enumerate(depths))


NO_DECKS = (
    [None, 0, 1, True, False, "", "a", "a:1", "ab", b"ab", 1.5, {}, {"a": 1}, {"ab": 1}, range(3)]
    + [{("a", 1)}, {("a", 1): ("b", 2)}, ("a", 1), ["a", 1], (), [], ((),), [[]], [()]]
    + [(("a", 1), ("a", 1)), [["a", 1], ["a", 2]], (("a", 1), ("b", 2), ("a", 3)), [("a", 1), ["b", 2], ["b", 0]]]
    + [deck_with([0] * 41), list(deck_with(range(41))), deck_with([3] * 60)]
    + [(card,) for card in NO_CARDS]
    + [[("x", 0), card] for card in NO_CARDS]
    + [(card, ("x", 0), ("y", 0)) for card in NO_CARDS]
)


def not_numbers(most):
    """What is no whole number from 0 to the most; a program that takes them all fails before it meets a huge one."""
    return [-1, -2, most + 1, most + 2, HUGE, -HUGE] + [
        True, False, None, "", "0", "1", 0.0, 1.0, b"1", [], [0], [1], (), (1,), {}, {1: 1},
    ]


def refusal(call, *told, **named):
    """The class of the error by which a call is refused; None, where it answers."""
    try:
        call(*told, **named)
    except Exception as why:
        return why.__class__
    return None


def as_lists(deck):
    """The deck as a list of lists."""
    return [list(card) for card in deck]


def all_forms(deck):
    """The deck in each mixture of lists and tuples."""
    cards = [tuple(card) for card in deck]
    mixed = [list(card) if place % 2 else card for place, card in enumerate(cards)]
    return [tuple(cards), list(cards), as_lists(cards), tuple(as_lists(cards)), mixed, tuple(mixed)]


def slid_by_hand(deck):
    """A step: the top card goes under as many of the others as its depth tells, or under all."""
    others = list(deck)
    top = others.pop(0)
    others.insert(min(top[1], len(others)), top)
    return tuple(others)


def gone_by_hand(deck, steps):
    """The names seen by so many steps, and the deck behind them."""
    names = []
    for _ in range(steps):
        names.append(deck[0][0])
        deck = slid_by_hand(deck)
    return names, deck


def small_decks(cards, depths):
    """All decks of so many cards with depths below the told one."""
    return [deck_with(row) for row in product(range(depths), repeat=cards)]


def chance_decks(many, seed, most=40):
    """So many decks, the same ones each time, of cards up to the told number."""
    chance = Random(seed)
    decks = []
    for _ in range(many):
        size = chance.randint(1, most)
        names = chance.sample(range(676), size)
        depths = [chance.choice([0, 1, place, place, size - 1, chance.randint(0, size + 3)]) for place in range(size)]
        decks.append(tuple((letters(name), depth) for name, depth in zip(names, depths)))
    return decks


def left_alone(call, *told, **named):
    """Whether a call, answered or refused, leaves what it is handed as it was."""
    before = deepcopy((told, named))
    refusal(call, *told, **named)
    return repr((told, named)) == repr(before)


def is_told_deck(deck):
    """Whether it is a deck as it is told: plain tuples of plain tuples of a text and an int."""
    return type(deck) is tuple and all(
        type(card) is tuple and len(card) == 2 and type(card[0]) is str and type(card[1]) is int for card in deck
    )
