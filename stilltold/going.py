"""Notes that are gone: tables that show that no going on tells them any more."""

from stilltold.errors import NotCame
from stilltold.likeness import table
from stilltold.notes import is_note
from stilltold.runs import ended, notes_that_came
from stilltold.shadows import shadows_between
from stilltold.tablelooks import shows_table


def gone(program, history, note, *, guard=None):
    """The least table that shows that the note is never told any more; None where it is still held."""
    shadow, its = shadows_beside(program, history, note, guard)
    return table(program, shadow, program, its, guard=guard)


def shows_gone(program, history, note, thing, *, guard=None):
    """Whether it is a table that shows that the note is never told any more."""
    pair = shadows_beside(program, history, note, guard)
    return shows_table(program, program, thing, guard=guard) and pair in thing


def shadows_beside(program, history, note, guard):
    """The run's shadows at the end of the history under bars up to the note, and under those just above it."""
    place, run = ended(program, history, guard)
    notes = notes_that_came(history)
    if not is_note(note) or note not in notes:
        raise NotCame(note)
    shadows = shadows_between(place, run.mode(), run.held(), notes)
    which = notes.index(note)
    return shadows[which], shadows[which + 1]
