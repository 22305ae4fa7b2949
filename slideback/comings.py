"""When cards come home, when decks close nearer to the top, and for how long names are seen."""

from slideback.decks import deck_of, find_place
from slideback.far import often_shown, stretches, when_shown
from slideback.levels import away_places, closed_of, is_home_at


def spans_of(deck):
    """Each stretch of what is known to be a deck: the steps ahead of it, the deck at its head, its rows, its length."""
    spans = []
    gone = 0
    for head, rows, length in stretches(deck):
        spans.append((gone, head, rows, length))
        if length is not None:
            gone += length
    return spans


def come_home(ahead, behind):
    """The names of the cards that are away in a deck and home in the one behind it, sorted."""
    home = [card for place, card in enumerate(behind) if is_home_at(behind, place)]
    return sorted([ahead[place][0] for place in away_places(ahead) if ahead[place] in home])


def comings(deck):
    """All comings home of a deck: the step of each, and the names, sorted."""
    spans = spans_of(deck_of(deck))
    told = []
    # Cards away move by the last step of a stretch alone.
    for (_, ahead, _, _), (gone, behind, _, _) in zip(spans, spans[1:]):
        names = come_home(ahead, behind)
        if names:
            told.append((gone - 1, names))
    return told


def settled_behind(deck):
    """Behind how many steps, at least, a deck is settled."""
    return spans_of(deck_of(deck))[-1][0]


def closings(deck):
    """The closed place of a deck, and each lesser one behind the steps that bring it."""
    told = []
    # The cards that are to lie above a lesser place come there with one that is away.
    for gone, head, _, _ in spans_of(deck_of(deck)):
        place = closed_of(head)
        if not told or place < told[-1][1]:
            told.append((gone, place))
    return told


def fate_in(spans, name):
    """The fate of a name in a deck that goes on by these stretches."""
    if any(name in row for row in spans[-1][2]):
        return ("ever",)
    for gone, _, rows, length in reversed(spans[:-1]):
        often = often_shown(rows, name, length)
        if often > 0:
            return ("last", gone + when_shown(rows, name, often - 1))
    return ("never",)


def fate(deck, name):
    """Whether a name is seen again and again, for the last time at a step, or never."""
    cards = deck_of(deck)
    find_place(cards, name)
    return fate_in(spans_of(cards), name)
