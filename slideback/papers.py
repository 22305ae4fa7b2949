"""Papers of steps of settled decks, and papers of names that are never seen from some step on."""

from slideback.comings import spans_of
from slideback.decks import deck_of, find_place
from slideback.far import deck_after, often_round
from slideback.kinds import is_listed, is_whole, require_step
from slideback.levels import closed_of
from slideback.rounds import require_settled, settled_rows


def paper_by(rows, step):
    """The paper of a step by the patterns of a settled deck, and the name that is seen."""
    paper = []
    index = step
    name = None
    for row in rows:
        turns, phase = divmod(index, len(row))
        paper.append((index, turns, phase))
        name = row[phase]
        if name is not None:
            break
        index = often_round(row, None, index)
    return paper, name


def paper_of(deck, step):
    """The paper of a step of a settled deck."""
    cards = deck_of(deck)
    require_settled(cards)
    require_step(step)
    paper, _ = paper_by(settled_rows(cards), step)
    return paper


def numbers_in(thing, many):
    """The tuple of so many whole numbers that a thing is, or None."""
    if not is_listed(thing) or len(thing) != many:
        return None
    # A truth or a float may be equal to a number, and is none.
    return tuple(thing) if all(is_whole(number) for number in thing) else None


def paper_shows(deck, step, name, paper):
    """Whether a thing is the paper of a step of a settled deck, and the name is the one that is seen."""
    cards = deck_of(deck)
    require_settled(cards)
    require_step(step)
    find_place(cards, name)
    due, seen = paper_by(settled_rows(cards), step)
    if name != seen or not is_listed(paper):
        return False
    return [numbers_in(row, 3) for row in paper] == due


def never_paper(deck, name):
    """The paper of never of a name, with the least steps, or None."""
    cards = deck_of(deck)
    find_place(cards, name)
    # Decks close at the head of a stretch alone.
    for gone, head, _, _ in spans_of(cards):
        closed = closed_of(head)
        if find_place(head, name) >= closed:
            return gone, closed
    return None


def never_shows(deck, name, paper):
    """Whether a thing is a paper of never that shows of a deck that a name is never seen from its steps on."""
    cards = deck_of(deck)
    find_place(cards, name)
    numbers = numbers_in(paper, 2)
    if numbers is None or min(numbers) < 0:
        return False
    steps, place = numbers
    there = deck_after(cards, steps)
    return closed_of(there) == place and find_place(there, name) >= place
