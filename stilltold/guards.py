"""Guards: which deeds are let, place by place."""

from stilltold.plain import is_row, is_within

MOST_PLACES = 4


def is_guard(deeds, thing):
    """Whether it is a guard of these deeds."""
    if not is_row(thing, 1, MOST_PLACES):
        return False
    return all([is_place(len(deeds), len(thing), place) for place in thing])


def is_place(deeds, places, thing):
    """Whether it is a place of so many deeds, one of so many places."""
    if not is_row(thing, deeds, deeds):
        return False
    return all([behind is None or is_within(behind, 0, places - 1) for behind in thing])


def free(deeds):
    """The guard of one place that lets all."""
    return ((0,) * len(deeds),)


def guard_or_free(program, guard):
    """The guard that was handed in, the free one where none was."""
    return free(program[1]) if guard is None else guard
