"""Which depths let a row of names be seen, and which a name at a step."""

from itertools import combinations

from slideback.decks import MOST_CARDS, deck_of, find_place, step_of
from slideback.errors import NoDepths, NoNames, NoRow, TooMany
from slideback.far import deck_after
from slideback.kinds import is_depth, is_listed, is_name, require_step
from slideback.levels import names_of

MOST_DEPTHS = 1000


def require_names(names):
    """Refuse what is no list of one to forty unlike names."""
    if not is_listed(names) or not 1 <= len(names) <= MOST_CARDS:
        raise NoNames("no list of one to forty names")
    if not all(is_name(name) for name in names) or len(set(names)) < len(names):
        raise NoNames("no list of unlike names")


def require_row(names, row):
    """Refuse what is no list of some of the names."""
    if not is_listed(row) or not all(name in names for name in row):
        raise NoRow("no list of some of the names")


def require_depths(names, depths):
    """Refuse what is no list of depths, one for each name."""
    if not is_listed(depths) or len(depths) != len(names) or not all(is_depth(depth) for depth in depths):
        raise NoDepths("no list of depths, one for each name")


def depths_let(names, row, depths):
    """Whether depths let a row be seen by the first steps of the deck of some names."""
    require_names(names)
    require_row(names, row)
    require_depths(names, depths)
    deck = tuple(zip(names, depths))
    for name in row:
        if deck[0][0] != name:
            return False
        deck = step_of(deck)
    return True


def in_order(names, row):
    """Whether the names are first seen by a row in the order in which they lie."""
    first = [name for step, name in enumerate(row) if name not in row[:step]]
    return first == list(names[:len(first)])


def many_unlike(row):
    """How many unlike names a row has."""
    return len(set(row))


def reaches_let(names, row, name):
    """The reaches of a name, rising, that let a row be seen by which names are first seen in their order."""
    steps = [step for step, seen in enumerate(row) if seen == name]
    if not steps:
        return list(range(len(names)))
    # As many cards as are seen before it comes again have been above it, and all that are seen when it does not.
    just = [many_unlike(row[step + 1:again]) for step, again in zip(steps, steps[1:])]
    least = many_unlike(row[steps[-1] + 1:])
    return [reach for reach in range(least, len(names)) if all(reach == one for one in just)]


def all_depths(names, row):
    """All depths, each below the number of names, that let a row be seen, sorted."""
    require_names(names)
    require_row(names, row)
    if not in_order(names, row):
        return []
    choices = [reaches_let(names, row, name) for name in names]
    many = 1
    for reaches in choices:
        many *= len(reaches)
    if many > MOST_DEPTHS:
        raise TooMany("more than a thousand depths")
    # One name without a reach leaves none, however many the others have.
    if many == 0:
        return []
    told = [()]
    for reaches in choices:
        told = [depths + (reach,) for depths in told for reach in reaches]
    return told


def depths_otherwise(deck, places):
    """All tuples of depths that are other than the deck's at just these places, sorted."""
    told = [()]
    for place, card in enumerate(deck):
        choices = [card[1]]
        if place in places:
            choices = [depth for depth in range(len(deck)) if depth != card[1]]
        told = [depths + (depth,) for depths in told for depth in choices]
    return told


def least_wished(deck, step, name, places):
    """The least depths, other than the deck's at just these places, with which a name is seen at a step, or None."""
    for depths in depths_otherwise(deck, places):
        there = deck_after(tuple(zip(names_of(deck), depths)), step)
        if there[0][0] == name:
            return depths
    return None


def wished(deck, step, name):
    """The least depths, the fewest other than the deck's, with which a name is seen at a step, or None."""
    cards = deck_of(deck)
    require_step(step)
    find_place(cards, name)
    for many in range(len(cards) + 1):
        found = [least_wished(cards, step, name, places) for places in combinations(range(len(cards)), many)]
        told = [depths for depths in found if depths is not None]
        if told:
            return min(told)
    return None
