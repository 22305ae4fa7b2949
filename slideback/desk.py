"""A desk: a deck that is told deeds and asked questions, row by row."""

from slideback.comings import comings, fate
from slideback.decks import deepened, drawn, laid
from slideback.errors import NoForm, NoneYet
from slideback.far import deck_at, how_often, seen_at, when_seen
from slideback.kinds import is_name
from slideback.levels import closed_place
from slideback.rounds import round_of, share
from slideback.texts import deck_text, number_read, patterns_text, read_deck

# What stands behind the first word of a row.
FORMS = {
    "go": ("number",),
    "lay": ("name", "number", "number"),
    "draw": ("name",),
    "deepen": ("name", "number"),
    "show": (),
    "at": ("number",),
    "often": ("name", "number"),
    "when": ("name", "number"),
    "homes": (),
    "closed": (),
    "fate": ("name",),
    "round": (),
    "share": ("name",),
    "rings": (),
    "undo": (),
}


def thing_read(kind, word):
    """The name or the number that a word tells, or None."""
    if kind == "number":
        return number_read(word)
    return word if is_name(word) else None


def row_read(row):
    """The first word of a row, and behind it what it tells."""
    if not isinstance(row, str):
        raise NoForm("no text")
    first, blank, rest = row.partition(" ")
    # A text of no form is refused by what reads it.
    if first == "deck" and blank == " ":
        return [first, rest]
    words = row.split(" ")[1:]
    if first not in FORMS or len(words) != len(FORMS[first]):
        raise NoForm("no such row")
    told = [thing_read(kind, word) for kind, word in zip(FORMS[first], words)]
    if None in told:
        raise NoForm("a name or a number has no form")
    return [first] + told


def deed_done(deck, told):
    """The deck behind a deed, and the answer; None of a row that tells no deed."""
    match told:
        case ["deck", text]:
            return read_deck(text), "ok"
        case ["go", 0]:
            return deck, "none"
        case ["go", steps]:
            return deck_at(deck, steps), seen_at(deck, steps - 1)
        case ["lay", name, depth, place]:
            return laid(deck, (name, depth), place), "ok"
        case ["draw", name]:
            return drawn(deck, name), "ok"
        case ["deepen", name, depth]:
            return deepened(deck, name, depth), "ok"
    return None


def homes_text(deck):
    """The text of all comings home of a deck."""
    told = [f"{step} {name}" for step, names in comings(deck) for name in names]
    return "; ".join(told) if told else "none"


def when_text(deck, name, number):
    """The text of the step at which a name is seen for the so-manieth time."""
    step = when_seen(deck, name, number)
    return "none" if step is None else str(step)


def words_text(words):
    """The text of some words and numbers, parted by blanks."""
    return " ".join([str(word) for word in words])


def answer_to(deck, told):
    """The answer to a question of a deck."""
    match told:
        case ["show"]:
            return deck_text(deck)
        case ["at", step]:
            return seen_at(deck, step)
        case ["often", name, steps]:
            return str(how_often(deck, steps, name))
        case ["when", name, number]:
            return when_text(deck, name, number)
        case ["homes"]:
            return homes_text(deck)
        case ["closed"]:
            return str(closed_place(deck))
        case ["fate", name]:
            return words_text(fate(deck, name))
        case ["round"]:
            return words_text(round_of(deck))
        case ["share", name]:
            top, bottom = share(deck, name)
            return f"{top}/{bottom}"
        case ["rings"]:
            return patterns_text(deck)
    raise NoForm("no such question")


class Desk:
    """A deck, the deeds that are done to it, and those ahead of them to go back to."""

    def __init__(self):
        self.deck = (("top", 0),)
        self.past = []

    def say(self, row):
        """Do the deed that a row tells, or answer its question."""
        told = row_read(row)
        if told == ["undo"]:
            return self.undone()
        done = deed_done(self.deck, told)
        if done is None:
            return answer_to(self.deck, told)
        self.past.append(self.deck)
        self.deck, answer = done
        return answer

    def undone(self):
        """Go back to the deck ahead of the last deed that is not undone."""
        if not self.past:
            raise NoneYet("nothing is left to undo")
        self.deck = self.past.pop()
        return "ok"
