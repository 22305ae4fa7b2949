"""What several tests share: decks, things that are none, and sliding written out anew."""

from copy import deepcopy
from itertools import permutations, product
from random import Random

HUGE = 10 ** 30 - 1

NO_NAMES = [
    "", "abcdefghi", "A", "aB", "a1", "1", "a b", " a", "a ", "a\n", "\n", "a-b", "a_b", "a.", "`", "{",
    "a{", "`a", None, 0, 1, True, False, 1.5, b"a", ["a"], ("a",), {"a": 1}, (), [],
]

NO_DEPTHS = [-1, -2, -HUGE, True, False, None, "", "0", "1", 0.0, 1.0, b"1", [], [1], (), (1,), {}]

# What is no whole number from 0 on is no depth, no step and no number of times.
NO_COUNTS = NO_DEPTHS

NO_CARDS = (
    [None, 0, 1, True, "", "a", "a1", "ab", b"ab", 1.5, {}, {"a": 1}, {"a": 1, "b": 2}, {"a", "b"}]
    + [(), [], ("a",), ["a"], ("a", 1, 2), ["a", 1, 2], ("a", 1, "a", 1), (1, "a"), (("a", 1),), ("a", "b")]
    + [("a", 1, ()), ["ab", "cd"], ("a", (1,)), (("a",), 1), range(2)]
    + [(name, 1) for name in NO_NAMES]
    + [[name, 0] for name in NO_NAMES]
    + [("a", depth) for depth in NO_DEPTHS]
    + [["a", depth] for depth in NO_DEPTHS]
)


def letters(number):
    """A name of two small letters for a number from 0 to 675."""
    return chr(97 + number // 26) + chr(97 + number % 26)


def deck_with(depths):
    """The deck with these depths from the top on, names rising."""
    return tuple((letters(place), depth) for place, depth in enumerate(depths))


NO_DECKS = (
    [None, 0, 1, True, False, "", "a", "a:1", "ab", b"ab", 1.5, {}, {"a": 1}, {"ab": 1}, range(3)]
    + [{("a", 1)}, {("a", 1): ("b", 2)}, ("a", 1), ["a", 1], (), [], ((),), [[]], [()]]
    + [(("a", 1), ("a", 1)), [["a", 1], ["a", 2]], (("a", 1), ("b", 2), ("a", 3)), [("a", 1), ["b", 2], ["b", 0]]]
    + [deck_with([0] * 41), list(deck_with(range(41))), deck_with([3] * 60)]
    + [(card,) for card in NO_CARDS]
    + [[("x", 0), card] for card in NO_CARDS]
    + [(card, ("x", 0), ("y", 0)) for card in NO_CARDS]
)


def not_numbers(most):
    """What is no whole number from 0 to the most; a program that takes them all fails before it meets a huge one."""
    return [-1, -2, most + 1, most + 2, HUGE, -HUGE] + [
        True, False, None, "", "0", "1", 0.0, 1.0, b"1", [], [0], [1], (), (1,), {}, {1: 1},
    ]


def refusal(call, *told, **named):
    """The class of the error by which a call is refused; None, where it answers."""
    try:
        call(*told, **named)
    except Exception as why:
        return why.__class__
    return None


def as_lists(deck):
    """The deck as a list of lists."""
    return [list(card) for card in deck]


def all_forms(deck):
    """The deck in each mixture of lists and tuples."""
    cards = [tuple(card) for card in deck]
    mixed = [list(card) if place % 2 else card for place, card in enumerate(cards)]
    return [tuple(cards), list(cards), as_lists(cards), tuple(as_lists(cards)), mixed, tuple(mixed)]


def slid_by_hand(deck):
    """A step: the top card goes under as many of the others as its depth tells, or under all."""
    others = list(deck)
    top = others.pop(0)
    others.insert(min(top[1], len(others)), top)
    return tuple(others)


def gone_by_hand(deck, steps):
    """The names seen by so many steps, and the deck behind them."""
    names = []
    for _ in range(steps):
        names.append(deck[0][0])
        deck = slid_by_hand(deck)
    return names, deck


def small_decks(cards, depths):
    """All decks of so many cards with depths below the told one."""
    return [deck_with(row) for row in product(range(depths), repeat=cards)]


def chance_decks(many, seed, most=40):
    """So many decks, the same ones each time, of cards up to the told number."""
    chance = Random(seed)
    decks = []
    for _ in range(many):
        size = chance.randint(1, most)
        names = chance.sample(range(676), size)
        depths = [chance.choice([0, 1, place, place, size - 1, chance.randint(0, size + 3)]) for place in range(size)]
        decks.append(tuple((letters(name), depth) for name, depth in zip(names, depths)))
    return decks


def lively_decks(many, seed, least=2, most=40, odds=0.12):
    """So many decks, the same ones each time, that mostly close late; by the odds a card may be away."""
    chance = Random(seed)
    decks = []
    for _ in range(many):
        size = chance.randint(least, most)
        depths = [place + chance.choice([1, 1, 1, 2, 3, chance.randint(1, size)]) for place in range(size)]
        for place in range(1, size):
            if chance.random() < odds:
                depths[place] = chance.randint(1, place)
        names = chance.sample(range(676), size)
        decks.append(tuple((letters(name), depth) for name, depth in zip(names, depths)))
    return decks


def late_decks(many, seed):
    """So many decks, the same ones each time, of which most have cards away that move only far on."""
    chance = Random(seed)
    decks = []
    for _ in range(many):
        size = chance.randint(24, 40)
        depths = [place + chance.choice([1, 1, 1, 2, 3]) for place in range(size)]
        for place in chance.sample(range(size * 2 // 3, size), 3):
            depths[place] = chance.randint(place - 6, place)
        decks.append(deck_with(depths))
    return decks


def crowded_deck():
    """A deck whose cards come up and home by some two hundred steps, the last of them past five hundred million."""
    depths = [16, 12, 19, 24, 20, 16, 16, 21, 23, 27, 26, 28, 32, 11, 21, 29, 22, 10, 25, 35]
    depths += [20, 32, 33, 24, 6, 30, 37, 9, 8, 34, 38, 3, 36, 2, 1, 5, 8, 4, 0, 7]
    return deck_with(depths)


def rising_deck(cards):
    """The deck of so many cards whose reaches are 1, 2, 3 and so on, from the top on."""
    return deck_with(range(1, cards + 1))


def late_deck(cards, depth):
    """A rising deck whose last card has another depth, and is away."""
    return rising_deck(cards)[:-1] + ((deck_with([0] * cards)[-1][0], depth),)


def near_decks():
    """Decks of all sizes, settled ones and such with cards away."""
    return chance_decks(12, 15) + lively_decks(12, 16) + lively_decks(8, 17, odds=0) + lively_decks(8, 18, odds=0.3)


def far_decks():
    """Large decks, settled ones and such with cards away near and far."""
    decks = late_decks(6, 19) + lively_decks(3, 20, 12) + lively_decks(2, 21, 12, odds=0)
    return decks + [late_deck(40, 37), crowded_deck()]


def far_steps(many, seed):
    """So many steps of all sizes up to thirty figures, the same ones each time."""
    chance = Random(seed)
    return [chance.randrange(10 ** chance.randint(1, 30)) for _ in range(many)]


def plateau_deck(size):
    """A settled deck of forty cards whose rings grow to a size and keep it; it comes round by size ** (41 - size)."""
    return deck_with(list(range(size - 1, 39)) + [39] * size)


def reaches_by_hand(deck):
    """The reaches of a deck's cards, from the top on."""
    return [min(depth, len(deck) - 1) for _, depth in deck]


def closed_by_hand(deck):
    """The least m from 1 on so that the cards at the places below m have all reaches below m."""
    reaches = reaches_by_hand(deck)
    return min(m for m in range(1, len(deck) + 1) if all(reach < m for reach in reaches[:m]))


def away_by_hand(deck):
    """The names above the closed place that lie beneath their reaches, from the top on."""
    reaches = reaches_by_hand(deck)
    return [deck[place][0] for place in range(closed_by_hand(deck)) if reaches[place] < place]


def home_by_hand(deck):
    """The names of all cards that do not lie beneath their reaches."""
    return [name for place, (name, _) in enumerate(deck) if place <= reaches_by_hand(deck)[place]]


def settled_decks():
    """Settled decks of all sizes, closed early and late."""
    decks = [deck for deck in lively_decks(60, 12) + chance_decks(60, 12) if not away_by_hand(deck)]
    decks += lively_decks(60, 125, odds=0)
    return decks + [deck_with([39] * 40), deck_with(range(40)), rising_deck(40), deck_with([0]), deck_with([5])]


def is_home_order(deck):
    """Whether no card of a deck lies beneath its reach."""
    return all(place <= reach for place, reach in enumerate(reaches_by_hand(deck)))


def orders_by_hand(cards):
    """All orders in which no card lies beneath its reach, sorted."""
    return sorted(order for order in permutations(cards) if is_home_order(order))


def pattern_by_hand(deck, level):
    """The names above the level's place that reach it or more, and the one at it; None for reaches above."""
    cards = list(zip([name for name, _ in deck], reaches_by_hand(deck)))
    ring = [card for card in cards[:level] if card[1] >= level] + [cards[level]]
    return [name if reach == level else None for name, reach in ring]


class GoneByHand:
    """A deck gone through card by card until it comes round; small decks alone come round soon."""

    def __init__(self, deck):
        self.decks = []
        known = {}
        while deck not in known:
            known[deck] = len(self.decks)
            self.decks.append(deck)
            deck = slid_by_hand(deck)
        self.first = known[deck]
        self.length = len(self.decks) - self.first
        self.names = [one[0][0] for one in self.decks]

    def index(self, step):
        """The index of the deck behind so many steps."""
        return step if step < self.first else self.first + (step - self.first) % self.length

    def behind(self, steps):
        """The deck behind so many steps."""
        return self.decks[self.index(steps)]

    def often(self, steps, name):
        """How often a name is seen by the first so many steps."""
        if steps <= self.first:
            return self.names[:steps].count(name)
        turns, left = divmod(steps - self.first, self.length)
        once = self.names[self.first:].count(name)
        return self.names[:self.first].count(name) + turns * once + self.names[self.first:self.first + left].count(name)

    def when(self, name, number):
        """The step at which a name is seen for the so-manieth time, or None."""
        ahead = [step for step in range(self.first) if self.names[step] == name]
        round_ = [step for step in range(self.first, len(self.names)) if self.names[step] == name]
        if number < len(ahead):
            return ahead[number]
        if not round_:
            return None
        turns, at = divmod(number - len(ahead), len(round_))
        return turns * self.length + round_[at]


def primes_of(number):
    """The primes that divide a number, which has no large ones."""
    primes = []
    for one in range(2, 100):
        if number % one == 0:
            primes.append(one)
            while number % one == 0:
                number //= one
    assert number == 1
    return primes


def left_alone(call, *told, **named):
    """Whether a call, answered or refused, leaves what it is handed as it was."""
    before = deepcopy((told, named))
    refusal(call, *told, **named)
    return repr((told, named)) == repr(before)


def is_told_deck(deck):
    """Whether it is a deck as it is told: plain tuples of plain tuples of a text and an int."""
    return type(deck) is tuple and all(
        type(card) is tuple and len(card) == 2 and type(card[0]) is str and type(card[1]) is int for card in deck
    )
