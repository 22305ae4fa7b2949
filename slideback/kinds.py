"""What a thing that is handed in is: a number, a name, a card."""

from slideback.errors import NoNumber, NoStep

MOST_LETTERS = 8


def is_whole(thing):
    """Whether the thing is an int that is no truth."""
    return isinstance(thing, int) and not isinstance(thing, bool)


def is_number(thing, most):
    """Whether the thing is a whole number from 0 to the most."""
    return is_whole(thing) and 0 <= thing <= most


def require_number(thing, most):
    """Refuse what is no whole number from 0 to the most."""
    if not is_number(thing, most):
        raise NoNumber("no whole number within the bounds")


def is_depth(thing):
    """Whether the thing is a whole number from 0 on."""
    return is_whole(thing) and thing >= 0


def require_step(thing):
    """Refuse what is no whole number from 0 on."""
    if not is_whole(thing) or thing < 0:
        raise NoStep("no whole number from 0 on")


def is_listed(thing):
    """Whether the thing is a list or a tuple, which are taken alike."""
    return isinstance(thing, (list, tuple))


def is_name(thing):
    """Whether the thing is a text of one to eight small letters."""
    if not isinstance(thing, str) or not 1 <= len(thing) <= MOST_LETTERS:
        return False
    # islower would let letters beyond a to z pass.
    return all("a" <= sign <= "z" for sign in thing)


def is_card(thing):
    """Whether the thing is a name and a depth."""
    if not is_listed(thing) or len(thing) != 2:
        return False
    return is_name(thing[0]) and is_depth(thing[1])
