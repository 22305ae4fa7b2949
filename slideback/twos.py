"""Where two decks part, and in which order names are first seen."""

from slideback.comings import fate_in, spans_of
from slideback.decks import deck_of, reach_of
from slideback.far import deck_after, often_round, rows_of, step_shown, turned
from slideback.kinds import require_step
from slideback.levels import closed_of


def rows_at(spans, step):
    """The rows, behind so many steps, of the stretch that they reach into."""
    gone, head, rows, _ = [span for span in spans if span[0] <= step][-1]
    return rows_of(turned(head, rows, step - gone), len(rows) - 1)


def name_shown(rows, level, index):
    """The name that rows show by the step of an index of a level."""
    for row in rows[level:]:
        name = row[index % len(row)]
        if name is not None:
            return name
        index = often_round(row, None, index)
    return None


def level_unlike(ours, theirs):
    """The first level at which rows are unlike, or None."""
    for level, (row, other) in enumerate(zip(ours, theirs)):
        if row != other:
            return level
    return None


def step_unlike(ours, theirs, most):
    """The first step, below the most where that is not None, by which rows show unlike names, or None."""
    level = level_unlike(ours, theirs)
    if level is None:
        return None
    # A name in one row may be shown through a hole of the other one, but not a turn later again.
    for index in range(2 * len(ours[level])):
        step = step_shown(ours, level, index)
        if most is not None and step >= most:
            return None
        if name_shown(ours, level, index) != name_shown(theirs, level, index):
            return step
    return None


def parting(one, other):
    """The first step at which two decks show unlike names, or None."""
    ours = spans_of(deck_of(one))
    theirs = spans_of(deck_of(other))
    starts = sorted({span[0] for span in ours + theirs})
    for start, end in zip(starts, starts[1:] + [None]):
        most = None if end is None else end - start
        step = step_unlike(rows_at(ours, start), rows_at(theirs, start), most)
        if step is not None:
            return start + step
    return None


def first_sights(deck, step):
    """The names that are seen from a step on, in the order in which they are first seen."""
    cards = deck_of(deck)
    require_step(step)
    there = deck_after(cards, step)
    spans = spans_of(there)
    return [name for name, _ in there if fate_in(spans, name) != ("never",)]


def shown_cards(deck):
    """The name and the reach of each card above the closed place of what is known to be a deck."""
    return [(card[0], reach_of(card, len(deck))) for card in deck[:closed_of(deck)]]


def unlike_places(one, other):
    """Behind how many steps two decks are settled, and the places at which they show unlike cards then."""
    here = deck_of(one)
    there = deck_of(other)
    steps = max(spans_of(here)[-1][0], spans_of(there)[-1][0])
    ours = shown_cards(deck_after(here, steps))
    theirs = shown_cards(deck_after(there, steps))
    places = range(max(len(ours), len(theirs)))
    # Beneath a closed place there is no card to slice off.
    return steps, [place for place in places if ours[place:place + 1] != theirs[place:place + 1]]
