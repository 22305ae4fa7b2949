"""How decks come round, and how far it is from one deck to another."""

from math import gcd

from slideback.comings import spans_of
from slideback.decks import deck_of, find_place
from slideback.errors import NoOrder, NotSettled
from slideback.far import often_round, rows_of
from slideback.homes import count_orders
from slideback.levels import away_places, closed_of


def settled_rows(deck):
    """The patterns of what is known to be a settled deck."""
    return rows_of(deck, closed_of(deck) - 1)


def require_settled(deck):
    """Refuse what is known to be a deck where some cards are away."""
    if away_places(deck):
        raise NotSettled("some cards are away")


def turn_of(row):
    """By how many steps of its level, at least, a row is the same again."""
    # Holes are alike, and names are not.
    return 1 if row.count(None) == len(row) else len(row)


def rounds_by(row, unit):
    """By how many times so many steps of its level, at least, a row is the same again."""
    turn = turn_of(row)
    return turn // gcd(turn, unit)


def length_of(rows):
    """By how many steps, at least, all the patterns of a settled deck are the same again."""
    length = 1
    # By the length that the rows above have, a level goes on by so many steps.
    unit = 1
    for row in rows:
        times = rounds_by(row, unit)
        length *= times
        unit = often_round(row, None, unit * times)
    return length


def round_of(deck):
    """Behind how many steps a deck first lies that comes again, and by how many steps it does."""
    gone, _, rows, _ = spans_of(deck_of(deck))[-1]
    return gone, length_of(rows)


def share_in(rows, name):
    """How often, of how many steps, rows show a name, in lowest terms."""
    top = 1
    bottom = 1
    for row in rows:
        bottom *= len(row)
        if name in row:
            common = gcd(top, bottom)
            return top // common, bottom // common
        top *= row.count(None)
    return 0, 1


def share(deck, name):
    """How often, of how many steps of the round, a name is seen, in lowest terms."""
    cards = deck_of(deck)
    find_place(cards, name)
    return share_in(spans_of(cards)[-1][2], name)


def length_among(deck):
    """By how many steps each home order of the cards of what is known to be a deck comes round."""
    if count_orders(deck) == 0:
        raise NoOrder("the cards have no home order")
    # Where some order is home, the one by depths is.
    order = tuple(sorted(deck, key=lambda card: card[1]))
    return length_of(settled_rows(order))


def round_length(cards):
    """By how many steps each home order of some cards comes round."""
    return length_among(deck_of(cards))


def rounds_counted(cards):
    """Into how many rounds the home orders of some cards fall."""
    deck = deck_of(cards)
    return count_orders(deck) // length_among(deck)


def times_until(row, aim, index, unit, most):
    """How many times a unit, below the most, goes from an index to where the row has turned into its aim, or None."""
    for times in range(most):
        phase = (index + unit * times) % len(row)
        if row[phase:] + row[:phase] == aim:
            return times
    return None


def steps_between(rows, aims):
    """The least number of steps by which rows turn into their aims, or None."""
    # The rows above are as they are to be behind so many steps, and each length more.
    steps = 0
    length = 1
    # By these the level goes on to an index, and a unit more.
    index = 0
    unit = 1
    for row, aim in zip(rows, aims):
        most = rounds_by(row, unit)
        times = times_until(row, aim, index, unit, most)
        if times is None:
            return None
        steps += length * times
        length *= most
        index = often_round(row, None, index + unit * times)
        unit = often_round(row, None, unit * most)
    return steps


def steps_to(one, other):
    """The least number of steps by which a settled deck comes to another one, or None."""
    here = deck_of(one)
    there = deck_of(other)
    require_settled(here)
    require_settled(there)
    rows = settled_rows(here)
    if sorted(here) != sorted(there) or here[len(rows):] != there[len(rows):]:
        return None
    return steps_between(rows, settled_rows(there))
