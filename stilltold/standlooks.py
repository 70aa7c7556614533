"""A look at what is said to be all stands, or more than these."""

from stilltold.climbing import Climb
from stilltold.shadows import are_shadows
from stilltold.stairs import first_stair


def shows_stands(program, thing, *, guard=None):
    """Whether it is a rising tuple of rows of shadows that has the first stair's and from which no deed leads out."""
    if not isinstance(thing, tuple) or not all([are_shadows(program, row, guard) for row in thing]):
        return False
    if () in thing or not all([lesser < greater for lesser, greater in zip(thing, thing[1:])]):
        return False
    climb = Climb(program, guard)
    if first_stair(program, guard=guard)[0] not in thing or not all([could_stand(climb, row) for row in thing]):
        return False
    return is_shut(climb, thing)


def could_stand(climb, row):
    """Whether each shadow is its own least like, no neighbours are the same, and all let the same deeds."""
    if not all([climb.likes[shadow] == shadow and climb.let(shadow) == climb.let(row[0]) for shadow in row]):
        return False
    return all([shadow != above for shadow, above in zip(row, row[1:])])


def is_shut(climb, rows):
    """Whether each deed leads from each row into the rows, wherever the notes and its numbers lie."""
    known = {row: True for row in rows}
    for row in rows:
        for number in climb.let(row[0]):
            if not all([shadows in known for cut, shadows in climb.behind(row, number)]):
                return False
    return True
