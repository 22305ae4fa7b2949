"""Decks, their steps, and decks made otherwise."""

from slideback.errors import Full, Last, NoCard, NoDeck, NoDepth, NoName, NoPlace, Twice
from slideback.kinds import is_card, is_depth, is_listed, is_number, require_number

MOST_CARDS = 40
MOST_STEPS = 2000


def deck_of(cards):
    """The deck of a list of cards, from the top on."""
    if not is_listed(cards) or not 1 <= len(cards) <= MOST_CARDS:
        raise NoDeck("a deck is a list of one to forty cards")
    if not all(is_card(card) for card in cards):
        raise NoDeck("a card is a name and a depth")
    # Cards that were handed in as lists would stay the asker's own.
    deck = tuple([(name, depth) for name, depth in cards])
    if len({card[0] for card in deck}) < len(deck):
        raise NoDeck("the names of a deck are unlike")
    return deck


def reach_of(card, many):
    """The reach of a card in a deck of so many cards."""
    return min(card[1], many - 1)


def step_of(deck):
    """The deck behind a step of what is known to be a deck."""
    place = reach_of(deck[0], len(deck))
    return deck[1:place + 1] + deck[:1] + deck[place + 1:]


def slid(deck):
    """The deck behind a step."""
    return step_of(deck_of(deck))


def row_seen(deck, steps):
    """The names seen by the first so many steps."""
    now = deck_of(deck)
    require_number(steps, MOST_STEPS)
    names = []
    for _ in range(steps):
        names.append(now[0][0])
        now = step_of(now)
    return names


def deck_behind(deck, steps):
    """The deck behind so many steps."""
    now = deck_of(deck)
    require_number(steps, MOST_STEPS)
    for _ in range(steps):
        now = step_of(now)
    return now


def find_place(deck, name):
    """The place of a name in what is known to be a deck."""
    for place, card in enumerate(deck):
        if card[0] == name:
            return place
    raise NoName("no name of the deck")


def laid(deck, card, place):
    """The deck with a card laid in at a place."""
    cards = deck_of(deck)
    if not is_card(card):
        raise NoCard("a card is a name and a depth")
    name, depth = card
    if name in [other[0] for other in cards]:
        raise Twice("the deck has a card of that name")
    if not is_number(place, len(cards)):
        raise NoPlace("no place from 0 to the number of cards")
    if len(cards) == MOST_CARDS:
        raise Full("the deck has forty cards")
    return cards[:place] + ((name, depth),) + cards[place:]


def drawn(deck, name):
    """The deck without the card of a name."""
    cards = deck_of(deck)
    place = find_place(cards, name)
    if len(cards) == 1:
        raise Last("the deck has one card alone")
    return cards[:place] + cards[place + 1:]


def deepened(deck, name, depth):
    """The deck with another depth of the card of a name."""
    cards = deck_of(deck)
    place = find_place(cards, name)
    if not is_depth(depth):
        raise NoDepth("a depth is a whole number from 0 on")
    return cards[:place] + ((name, depth),) + cards[place + 1:]
