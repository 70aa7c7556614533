"""Choices among notes."""

from stilltold.notes import kth
from stilltold.plain import is_bit, is_name, is_row, is_within

MOST_SIZE = 60
MOST_DEPTH = 8
MOST_PARTS = 5


def is_choice(cells, many, thing):
    """Whether it is a choice of these cells and of numbers below many, neither too large nor too deep."""
    level = [thing]
    size = 0
    # Level by level, so that no thing is looked into further than a choice may reach.
    for depth in range(MOST_DEPTH):
        size += len(level)
        if size > MOST_SIZE or not all([is_form(cells, many, part) for part in level]):
            return False
        level = [inner for part in level for inner in parts(part)]
    return len(level) == 0


def is_form(cells, many, thing):
    """Whether it has a choice's form, whatever stands in the places of the choices in it."""
    if not is_row(thing, 1, 3):
        return False
    word = thing[0]
    if word == "none":
        return len(thing) == 1
    if word == "kth":
        return len(thing) == 3 and is_some(thing[2]) and is_within(thing[1], 1, len(thing[2]))
    if len(thing) != 2:
        return False
    if word == "cell":
        return is_name(thing[1]) and thing[1] in cells
    if word == "came":
        return is_bit(thing[1]) and thing[1] < many
    return (word == "greatest" or word == "least") and is_some(thing[1])


def is_some(thing):
    """Whether it is a tuple of as many things as there may be choices in a choice."""
    return is_row(thing, 1, MOST_PARTS)


def parts(choice):
    """The choices that stand directly in it."""
    return choice[-1] if choice[0] in ("kth", "greatest", "least") else ()


def chosen(choice, held, came):
    """What the choice chooses of the cells and the notes that came."""
    return picked(choice, held, came, ())


def picked(choice, held, came, none):
    """What is chosen of notes or of bits alike: only what stands for none is another."""
    word = choice[0]
    if word == "none":
        return none
    if word == "cell":
        return held[choice[1]]
    if word == "came":
        return came[choice[1]]
    return kth([picked(part, held, came, none) for part in parts(choice)], rank(choice))


def rank(choice):
    """Which one a choice among choices takes, counted from the greatest, which is 1."""
    if choice[0] == "greatest":
        return 1
    return choice[1] if choice[0] == "kth" else len(choice[1])
