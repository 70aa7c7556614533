"""Programs under a bar, where each number is 1 or 0."""

from stilltold.errors import NoDeed, NotLet
from stilltold.guards import guard_or_free
from stilltold.plain import is_bit, is_row, is_within
from stilltold.programs import deed_number, done


def under(held, bar):
    """Each note as 1 where it is no lesser than the bar, else, and none, as 0."""
    return tuple([1 if thing >= bar else 0 for thing in held])


def is_shadow(program, thing, *, guard=None):
    """Whether it is a shadow: (place, mode, bits)."""
    if not is_row(thing, 3, 3):
        return False
    place, mode, bits = thing
    cells, deeds, modes = program
    if not is_within(place, 0, len(guard_or_free(program, guard)) - 1) or not is_within(mode, 0, len(modes) - 1):
        return False
    return is_row(bits, len(cells), len(cells)) and all([is_bit(bit) for bit in bits])


def first_shadow(program):
    """The shadow ahead of all deeds, the same under each bar."""
    return (0, 0, (0,) * len(program[0]))


def cast(program, shadow, deed, *, guard=None):
    """(answer, shadow behind) of a bit deed: what a Run does, seen under a bar."""
    number = deed_number(program, deed, is_bit)
    if number is None:
        raise NoDeed(deed)
    place, mode, bits = shadow
    behind = guard_or_free(program, guard)[place][number]
    if behind is None:
        raise NotLet(deed)
    answer, after, then = done(program, mode, number, bits, deed[1:], 0)
    return answer, (behind, after, then)


def bit_deeds(program):
    """All bit deeds, rising."""
    rows = []
    for name, many in program[1]:
        longer = [(name,)]
        for place in range(many):
            longer = [(*deed, bit) for deed in longer for bit in (0, 1)]
        rows.extend(longer)
    return tuple(sorted(rows))
