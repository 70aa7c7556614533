"""What the other modules ask of plain things: numbers, names, rows."""

LETTERS = "abcdefghijklmnopqrstuvwxyz"
WORDS = ("none", "cell", "came", "kth", "greatest", "least")


def is_whole(thing):
    """Whether it is a whole number: an int that is no truth."""
    return isinstance(thing, int) and not isinstance(thing, bool)


def is_within(thing, least, most):
    """Whether it is a whole number from least to most."""
    return is_whole(thing) and least <= thing <= most


def is_bit(thing):
    """Whether it is 0 or 1, and no truth."""
    return is_within(thing, 0, 1)


def is_row(thing, least, most):
    """Whether it is a tuple of so many things."""
    return isinstance(thing, tuple) and least <= len(thing) <= most


def is_name(thing):
    """Whether it is a name: one to eight letters, no word of the tongue."""
    if not isinstance(thing, str) or not 1 <= len(thing) <= 8:
        return False
    return thing not in WORDS and all([letter in LETTERS for letter in thing])


def are_unlike_names(things):
    """Whether all are names, none of them twice."""
    return all([is_name(thing) for thing in things]) and len(set(things)) == len(things)
