"""The refusals: each stands under DeckError, none under another one."""


class DeckError(ValueError):
    """Any refusal."""


class NoDeck(DeckError):
    """No deck of cards."""


class NoCard(DeckError):
    """No card."""


class NoName(DeckError):
    """No name of the deck."""


class NoDepth(DeckError):
    """No depth of a card."""


class NoPlace(DeckError):
    """No place to lay a card in at."""


class Twice(DeckError):
    """A name that the deck has already."""


class Full(DeckError):
    """A deck that takes no further card."""


class Last(DeckError):
    """The only card of a deck, which stays."""


class NoNumber(DeckError):
    """No whole number within the told bounds."""


class NoStep(DeckError):
    """No step, and no number of steps."""


class NoLevel(DeckError):
    """No level of the deck."""


class NotSettled(DeckError):
    """A deck with cards that are away."""


class NotLasting(DeckError):
    """Cards that are not lasting."""


class NoOrder(DeckError):
    """Cards without a home order."""


class NoNames(DeckError):
    """No list of unlike names."""


class NoRow(DeckError):
    """No row of the names."""


class NoDepths(DeckError):
    """No list of depths, one for each name."""


class TooMany(DeckError):
    """More answers than are told."""


class NoText(DeckError):
    """No text of a deck; place is the number of the word without a form."""

    def __init__(self, place):
        DeckError.__init__(self, "no text of a deck")
        self.place = place


class NoForm(DeckError):
    """A row of no form."""


class NoneYet(DeckError):
    """Nothing left to undo."""
