"""Places, homes, and the levels of a deck."""

from slideback.decks import deck_of, find_place, reach_of
from slideback.errors import NoLevel
from slideback.kinds import is_number


def names_of(cards):
    """The names of some cards."""
    return [card[0] for card in cards]


def closed_of(deck):
    """The closed place of what is known to be a deck."""
    farthest = 0
    for place, card in enumerate(deck):
        # No card above is put in here or beneath.
        if farthest < place:
            return place
        farthest = max(farthest, reach_of(card, len(deck)))
    return len(deck)


def is_home_at(deck, place):
    """Whether the card at a place of what is known to be a deck is home."""
    return place <= reach_of(deck[place], len(deck))


def away_places(deck):
    """The places of the cards away of what is known to be a deck."""
    return [place for place in range(closed_of(deck)) if not is_home_at(deck, place)]


def hand_of(deck, level):
    """The cards of the hand of a level of what is known to be a deck."""
    return [card for card in deck[:level] if reach_of(card, len(deck)) >= level]


def ring_of(deck, level):
    """The cards of the ring of a level of what is known to be a deck."""
    return hand_of(deck, level) + [deck[level]]


def require_level(deck, level):
    """Refuse what is no level of what is known to be a deck."""
    if not is_number(level, closed_of(deck) - 1):
        raise NoLevel("no level above the closed place")


def place_of(deck, name):
    """The place of a name."""
    return find_place(deck_of(deck), name)


def is_home(deck, name):
    """Whether the card of a name is home."""
    cards = deck_of(deck)
    return is_home_at(cards, find_place(cards, name))


def closed_place(deck):
    """The closed place of a deck: what lies there and beneath never moves."""
    return closed_of(deck_of(deck))


def away(deck):
    """The names of the cards away, from the top on."""
    cards = deck_of(deck)
    return [cards[place][0] for place in away_places(cards)]


def hand_at(deck, level):
    """The names of the hand of a level, from the top on."""
    cards = deck_of(deck)
    require_level(cards, level)
    return names_of(hand_of(cards, level))


def ring_at(deck, level):
    """The names of the ring of a level: its hand, and the card at its place."""
    cards = deck_of(deck)
    require_level(cards, level)
    return names_of(ring_of(cards, level))
