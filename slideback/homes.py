"""Decks where none is away, and the orders in which cards are home."""

from slideback.decks import deck_of, reach_of
from slideback.errors import NotLasting, NotSettled, TooMany
from slideback.levels import away_places, closed_of, ring_of

MOST_ORDERS = 1000


def pattern_of(deck, level):
    """The ring of a level, None in the place of each card that reaches beneath it."""
    many = len(deck)
    return [None if reach_of(card, many) > level else card[0] for card in ring_of(deck, level)]


def is_settled(deck):
    """Whether no card of a deck is away."""
    return not away_places(deck_of(deck))


def patterns(deck):
    """The patterns of a settled deck, level by level."""
    cards = deck_of(deck)
    if away_places(cards):
        raise NotSettled("some cards are away")
    return [pattern_of(cards, level) for level in range(closed_of(cards))]


def reaches_of(deck):
    """The reaches of what is known to be a deck."""
    return [reach_of(card, len(deck)) for card in deck]


def count_orders(deck):
    """How many home orders the cards of what is known to be a deck have."""
    orders = 1
    for number, reach in enumerate(sorted(reaches_of(deck))):
        # Those of lesser reaches lie at places that it could have, too.
        orders = orders * max(0, reach + 1 - number)
    return orders


def orders_counted(cards):
    """How many home orders some cards have."""
    return count_orders(deck_of(cards))


def filled_up(found, coming):
    """Each order and its free cards with one card more at its head, of the free and the coming ones."""
    filled = []
    for order, free in found:
        cards = free + coming
        for at, card in enumerate(cards):
            filled.append(((card,) + order, cards[:at] + cards[at + 1:]))
    return filled


def home_orders(cards):
    """All home orders of some cards, sorted."""
    deck = deck_of(cards)
    many = count_orders(deck)
    if many > MOST_ORDERS:
        raise TooMany("more than a thousand home orders")
    # Without a home order there may be far too many that cannot be filled up.
    if many == 0:
        return []
    found = [((), ())]
    # From the last place up, as what may lie at a place may lie at each one above it.
    for place in reversed(range(len(deck))):
        coming = tuple([card for card in deck if reach_of(card, len(deck)) == place])
        found = filled_up(found, coming)
    return sorted([order for order, _ in found])


def stay_open(reaches):
    """Whether cards of these reaches are lasting: no place has as many lesser reaches as places above."""
    for place in range(1, len(reaches)):
        if len([reach for reach in reaches if reach < place]) >= place:
            return False
    return True


def are_lasting(cards):
    """Whether some home order of the cards is closed only at its end."""
    return stay_open(reaches_of(deck_of(cards)))


def ring_sizes(cards):
    """The sizes of the rings of lasting cards, level by level."""
    reaches = reaches_of(deck_of(cards))
    if not stay_open(reaches):
        raise NotLasting("no home order is closed only at its end")
    sizes = [1]
    for level in range(len(reaches) - 1):
        sizes.append(sizes[level] + 1 - reaches.count(level))
    return sizes
