"""Stairs: just the notes that can still be told, and the shadows between them."""

from stilltold.errors import NoDeed, NotLet
from stilltold.guards import guard_or_free
from stilltold.machines import least_likes
from stilltold.plain import is_whole
from stilltold.programs import deed_number
from stilltold.runs import ended, notes_of, notes_that_came
from stilltold.shadows import first_shadow, moved, shadows_between, under


def first_stair(program, *, guard=None):
    """The stair ahead of all deeds."""
    # No guard is asked: the first shadow is the least of all, and so its own least like under each.
    return (first_shadow(program),), ()


def stair_of(program, history, *, guard=None):
    """The stair behind the history."""
    place, run = ended(program, history, guard)
    notes = notes_that_came(history)
    shadows = shadows_between(place, run.mode(), run.held(), notes)
    return stair_between(shadows, notes, least_likes(program, guard))


def stepped(program, stair, at, deed, *, guard=None):
    """(answer, stair behind) of the deed, done from the stair on as the at-th."""
    number = let_number(program, stair, deed, guard)
    return stepped_on(program, stair, notes_of(deed, at), number, guard, least_likes(program, guard))


def let_number(program, stair, deed, guard):
    """The number of the deed, which is refused where it is none or isn't let from the stair."""
    number = deed_number(program, deed, is_whole)
    if number is None:
        raise NoDeed(deed)
    # All shadows of a stair let the same, as they are like those of one place.
    if guard_or_free(program, guard)[last_place(stair)][number] is None:
        raise NotLet(deed)
    return number


def stepped_on(program, stair, came, number, guard, likes):
    """(answer, stair behind) of a deed that is let, by its number and its notes."""
    shadows, notes = stair
    places = guard_or_free(program, guard)
    bars = sorted([*notes, *came])
    moves = [moved(program, places, shadow_under(stair, bar), number, under(came, bar)) for bar in bars]
    moves.append(moved(program, places, shadows[-1], number, (0,) * len(came)))
    answers = [answer for answer, behind in moves]
    return highest(bars, answers), stair_between([behind for answer, behind in moves], bars, likes)


def highest(bars, answers):
    """The greatest note under which, as the bar, 1 is told; None where nothing is told."""
    if answers[-1] is None:
        return None
    return max([(), *[bar for bar, answer in zip(bars, answers) if answer == 1]])


def stair_between(shadows, notes, likes):
    """The stair of these shadows between these notes: each put as its least like, neighbours that are the same one."""
    least = [likes[shadow] for shadow in shadows]
    kept = [at for at in range(len(notes)) if least[at] != least[at + 1]]
    return tuple([*[least[at] for at in kept], least[-1]]), tuple([notes[at] for at in kept])


def shadow_under(stair, bar):
    """The stair's shadow that stands for this bar."""
    shadows, notes = stair
    return shadows[len([note for note in notes if note < bar])]


def last_place(stair):
    """The guard's place of the stair's last shadow: what it lets is what is let from here."""
    return stair[0][-1][0]
