"""What is seen however far: steps are found by one division a level.

A deck goes on by stretches. In one of them no card away moves but by its last
step, so what lies above the first card away turns as in a settled deck, by
rows: the pattern of each level above that card, then the ring of its level.
The last stretch is that of the settled deck; it has no end.
"""

from slideback.decks import deck_of, find_place, step_of
from slideback.errors import NoNumber
from slideback.homes import pattern_of
from slideback.kinds import is_whole, require_step
from slideback.levels import away_places, closed_of, names_of, ring_of


def often_round(row, thing, many):
    """How often a thing is among the first so many of a row that goes round."""
    turns, phase = divmod(many, len(row))
    return turns * row.count(thing) + row[:phase].count(thing)


def when_round(row, thing, number):
    """The index of the so-manieth of a thing in a row that goes round."""
    phases = [phase for phase, other in enumerate(row) if other == thing]
    turns, at = divmod(number, len(phases))
    return turns * len(row) + phases[at]


def rows_of(deck, last):
    """The patterns of the levels above the last one, and the last one's ring."""
    rows = [pattern_of(deck, level) for level in range(last)]
    rows.append(names_of(ring_of(deck, last)))
    return rows


def step_shown(rows, level, index):
    """The step that is the one of an index among those of a level."""
    for row in reversed(rows[:level]):
        index = when_round(row, None, index)
    return index


def filled(row, hand):
    """The row with the names of a hand in its holes, in their order."""
    names = []
    used = 0
    for name in row:
        if name is None:
            names.append(hand[used])
            used += 1
        else:
            names.append(name)
    return names


def turned(deck, rows, steps):
    """The deck behind so many steps of a stretch, its last one not among them."""
    turned_rows = []
    index = steps
    for row in rows:
        phase = index % len(row)
        turned_rows.append(row[phase:] + row[:phase])
        index = often_round(row, None, index)
    cards = {card[0]: card for card in deck}
    above = []
    hand = []
    # The holes of a ring are filled by the next level's hand.
    for row in reversed(turned_rows):
        ring = filled(row, hand)
        above.append(cards[ring[-1]])
        hand = ring[:-1]
    return tuple(above[::-1]) + deck[len(rows):]


def stretches(deck):
    """Each stretch of what is known to be a deck: the deck at its head, its rows, its length or None."""
    head = deck
    places = away_places(head)
    while places:
        rows = rows_of(head, places[0])
        # The first card away goes up by the first step of its place's level.
        length = step_shown(rows, places[0], 0) + 1
        yield head, rows, length
        head = step_of(turned(head, rows, length - 1))
        places = away_places(head)
    yield head, rows_of(head, closed_of(head) - 1), None


def stretches_gone(deck, steps):
    """Each stretch that so many steps reach into: the deck at its head, its rows, the steps gone of it."""
    gone = []
    left = steps
    for head, rows, length in stretches(deck):
        if length is None or left < length:
            gone.append((head, rows, left))
            break
        gone.append((head, rows, length))
        left -= length
    return gone


def deck_after(deck, steps):
    """What is known to be a deck, so many steps on."""
    head, rows, left = stretches_gone(deck, steps)[-1]
    return turned(head, rows, left)


def seen_at(deck, step):
    """The name that is seen at a step."""
    cards = deck_of(deck)
    require_step(step)
    return deck_after(cards, step)[0][0]


def deck_at(deck, steps):
    """The deck behind so many steps."""
    cards = deck_of(deck)
    require_step(steps)
    return deck_after(cards, steps)


def often_shown(rows, name, steps):
    """How often rows show a name by the first so many steps of a stretch."""
    index = steps
    for row in rows:
        if name in row:
            return often_round(row, name, index)
        index = often_round(row, None, index)
    return 0


def how_often(deck, steps, name):
    """How often a name is seen by the first so many steps."""
    cards = deck_of(deck)
    require_step(steps)
    find_place(cards, name)
    return sum([often_shown(rows, name, many) for _, rows, many in stretches_gone(cards, steps)])


def when_shown(rows, name, number):
    """The step at which rows show a name for the so-manieth time, or None."""
    for level, row in enumerate(rows):
        if name in row:
            return step_shown(rows, level, when_round(row, name, number))
    return None


def when_seen(deck, name, number):
    """The step at which a name is seen for the so-manieth time, from 0 on, or None."""
    cards = deck_of(deck)
    find_place(cards, name)
    if not is_whole(number) or number < 0:
        raise NoNumber("no whole number from 0 on")
    gone = 0
    left = number
    for _, rows, length in stretches(cards):
        step = when_shown(rows, name, left)
        if step is not None and (length is None or step < length):
            return gone + step
        if length is not None:
            gone += length
            left -= often_shown(rows, name, length)
    return None
