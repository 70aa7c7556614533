"""Ways out: how each note that is held can still be told."""

from stilltold.errors import NoDeed, NotHeld, NotLet
from stilltold.likeness import parting
from stilltold.machines import least_likes
from stilltold.notes import is_note
from stilltold.runs import notes_of
from stilltold.stairs import let_number, stepped_on


def way_out(program, stair, note, *, guard=None):
    """The least going on, by numbers below and above all notes of the stair alone, that tells the note."""
    if not is_held(stair, note):
        raise NotHeld(note)
    shadows, notes = stair
    which = notes.index(note)
    # What tells the note is answered with 1 under bars up to it, with 0 under those just above it.
    row = parting(program, shadows[which], program, shadows[which + 1], guard=guard)
    return with_numbers(row, notes)


def shows_way(program, stair, note, thing, *, guard=None):
    """Whether it is a going on whose last deed tells the note."""
    if not is_held(stair, note) or not isinstance(thing, tuple):
        return False
    begin = 1 + max([at for number, at, place in stair[1]])
    return last_told(program, stair, begin, thing, guard) == note


def last_told(program, stair, begin, going, guard):
    """What the last deed of a going on tells; None where nothing, or where it is no going on that is let."""
    likes = least_likes(program, guard)
    answer = None
    for at, deed in enumerate(going, start=begin):
        try:
            number = let_number(program, stair, deed, guard)
        except (NoDeed, NotLet):
            return None
        answer, stair = stepped_on(program, stair, notes_of(deed, at), number, guard, likes)
    return answer


def is_held(stair, thing):
    """Whether it is one of the stair's notes."""
    return is_note(thing) and thing in stair[1]


def with_numbers(row, notes):
    """The row of bit deeds with a number above all these rising notes for each 1, one below them all for each 0."""
    low = notes[0][0] - 1 if notes else 0
    high = notes[-1][0] + 1 if notes else 1
    return tuple([(deed[0], *[high if bit == 1 else low for bit in deed[1:]]) for deed in row])
