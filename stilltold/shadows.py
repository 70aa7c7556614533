"""Programs under a bar, where each number is 1 or 0."""

from stilltold.errors import NoDeed, NotLet
from stilltold.guards import guard_or_free
from stilltold.plain import is_bit, is_row, is_within
from stilltold.programs import deed_number, done


def under(held, bar):
    """Each note as 1 where it is no lesser than the bar, else, and none, as 0."""
    return tuple([1 if thing >= bar else 0 for thing in held])


def is_shadow(program, thing, *, guard=None):
    """Whether it is a shadow: (place, mode, bits)."""
    if not is_row(thing, 3, 3):
        return False
    place, mode, bits = thing
    cells, deeds, modes = program
    if not is_within(place, 0, len(guard_or_free(program, guard)) - 1) or not is_within(mode, 0, len(modes) - 1):
        return False
    return is_row(bits, len(cells), len(cells)) and all([is_bit(bit) for bit in bits])


def are_shadows(program, thing, guard):
    """Whether it is a tuple of shadows."""
    return isinstance(thing, tuple) and all([is_shadow(program, part, guard=guard) for part in thing])


def first_shadow(program):
    """The shadow ahead of all deeds, the same under each bar."""
    return (0, 0, (0,) * len(program[0]))


def cast(program, shadow, deed, *, guard=None):
    """(answer, shadow behind) of a bit deed: what a Run does, seen under a bar."""
    number = deed_number(program, deed, is_bit)
    if number is None:
        raise NoDeed(deed)
    move = moved(program, guard_or_free(program, guard), shadow, number, deed[1:])
    if move is None:
        raise NotLet(deed)
    return move


def moved(program, places, shadow, number, came):
    """(answer, shadow behind) of the deed of this number with these bits; None where the place doesn't let it."""
    place, mode, bits = shadow
    behind = places[place][number]
    if behind is None:
        return None
    answer, after, then = done(program, mode, number, bits, came, 0)
    return answer, (behind, after, then)


def bit_deeds(program):
    """All bit deeds, rising."""
    return tuple(sorted([(name, *bits) for name, many in program[1] for bits in bit_rows(many)]))


def bit_rows(many):
    """All rows of so many bits, rising."""
    rows = [()]
    for place in range(many):
        rows = [(*row, bit) for row in rows for bit in (0, 1)]
    return rows


def shadows_between(place, mode, held, notes):
    """The shadows under the bars between neighbours of these rising notes, the first up to the least of them."""
    return [(place, mode, bits) for bits in bits_between(held, notes)]


def bits_between(held, notes):
    """What is held, of these rising notes alone, under the bars between neighbours of them."""
    # Above all notes no cell is 1, so that the last gap needs no bar.
    return [*[under(held, bar) for bar in notes], (0,) * len(held)]
