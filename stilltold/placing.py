"""Programs that go on in another one's place so that nobody ever knows."""

from stilltold.machines import Machine, like_kinds
from stilltold.notes import is_note
from stilltold.plain import is_row, is_within
from stilltold.programs import need_same_deeds
from stilltold.shadows import bit_rows, bits_between, shadows_between
from stilltold.stairs import last_place


def goes_on(program, stair, other, thing, *, guard=None):
    """Whether it is a moment of the other program from which it answers all as the stair does."""
    need_same_deeds(program, other)
    if not is_moment(other, stair[1], thing):
        return False
    mode, held = thing
    kinds = like_kinds([Machine(program, guard), Machine(other, guard)])
    put = shadows_between(last_place(stair), mode, held, stair[1])
    return all([kinds[0, shadow] == kinds[1, its] for shadow, its in zip(stair[0], put)])


def is_moment(program, notes, thing):
    """Whether it is (mode, held) of the program, with none and these notes alone."""
    if not is_row(thing, 2, 2):
        return False
    mode, held = thing
    cells = len(program[0])
    if not is_within(mode, 0, len(program[2]) - 1) or not is_row(held, cells, cells):
        return False
    return all([part == () or (is_note(part) and part in notes) for part in held])


def in_place(program, stair, other, *, guard=None):
    """The least moment of the other program from which it answers all as the stair does; None without one."""
    need_same_deeds(program, other)
    kinds = like_kinds([Machine(program, guard), Machine(other, guard)])
    for mode in range(len(other[2])):
        held = least_held(beginnings(stair, other, mode, kinds), stair[1], len(other[0]), ())
        if held is not None:
            return mode, held
    return None


def beginnings(stair, other, mode, kinds):
    """For each gap of the stair the beginnings of all rows of bits that are like its shadow in the other's mode."""
    place = last_place(stair)
    rows = bit_rows(len(other[0]))
    like = [[bits for bits in rows if kinds[1, (place, mode, bits)] == kinds[0, shadow]] for shadow in stair[0]]
    return [{bits[:many]: True for bits in fit for many in range(len(bits) + 1)} for fit in like]


def least_held(known, notes, cells, held):
    """The least row of notes and nones that goes on from held and is like in each gap; None without one."""
    # A beginning that no like row has can't be mended by later cells, so that few rows are gone through.
    if not all([bits in fit for bits, fit in zip(bits_between(held, notes), known)]):
        return None
    if len(held) == cells:
        return held
    for thing in ((), *notes):
        longer = least_held(known, notes, cells, (*held, thing))
        if longer is not None:
            return longer
    return None
