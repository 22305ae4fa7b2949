"""The decks that come to a deck, and how far back it goes."""

from slideback.decks import deck_of, reach_of
from slideback.errors import TooMany
from slideback.kinds import require_number

MOST_BACK = 30
MOST_DECKS = 1000


def one_ahead(deck):
    """All decks that come to what is known to be a deck by one step."""
    found = []
    for place, card in enumerate(deck):
        # The last card seen lies where its reach has put it.
        if reach_of(card, len(deck)) == place:
            found.append((card,) + deck[:place] + deck[place + 1:])
    return found


def all_ahead(decks):
    """All decks that come to one of some decks by one step."""
    # A deck slides to one deck alone, so none is found twice.
    found = [one for deck in decks for one in one_ahead(deck)]
    if len(found) > MOST_DECKS:
        raise TooMany("more than a thousand decks")
    return found


def decks_ahead(deck, *, steps=1):
    """All decks that come to a deck by just so many steps, sorted."""
    decks = [deck_of(deck)]
    require_number(steps, MOST_BACK)
    for _ in range(steps):
        decks = all_ahead(decks)
    return sorted(decks)


def goes_back(deck, most):
    """The greatest number of steps, up to the most, by which some deck comes to a deck."""
    decks = [deck_of(deck)]
    require_number(most, MOST_BACK)
    for steps in range(most):
        decks = all_ahead(decks)
        # Where no deck comes by some steps, none comes by more.
        if not decks:
            return steps
    return most
