"""Decks and patterns as texts."""

from slideback.decks import deck_of
from slideback.errors import NoText
from slideback.homes import patterns
from slideback.kinds import is_name


def deck_text(deck):
    """The text of a deck, from the top on."""
    return " ".join([f"{name}:{depth}" for name, depth in deck_of(deck)])


def number_read(word):
    """The whole number that a word tells without noughts ahead, or None."""
    # isdigit would let figures beyond 0 to 9 pass.
    if word == "" or not all("0" <= sign <= "9" for sign in word):
        return None
    if word[0] == "0" and len(word) > 1:
        return None
    return int(word)


def card_read(word):
    """The card that a word tells, or None."""
    name, _, figures = word.partition(":")
    depth = number_read(figures)
    return (name, depth) if is_name(name) and depth is not None else None


def read_deck(text):
    """The deck that a text tells."""
    if not isinstance(text, str):
        raise NoText(None)
    cards = []
    for place, word in enumerate(text.split(" ")):
        card = card_read(word)
        if card is None:
            raise NoText(place)
        cards.append(card)
    return deck_of(cards)


def pattern_text(row):
    """The text of a pattern, a dot for each hole."""
    return " ".join(["." if name is None else name for name in row])


def patterns_text(deck):
    """The text of all patterns of a settled deck, level by level."""
    return " / ".join([pattern_text(row) for row in patterns(deck)])
