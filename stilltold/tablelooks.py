"""A look at what is said to be a table of like shadows."""

from stilltold.machines import Machine, are_parted
from stilltold.plain import is_row
from stilltold.programs import need_same_deeds
from stilltold.shadows import is_shadow


def shows_table(one, other, thing, *, guard=None):
    """Whether it is a table of the one and the other."""
    need_same_deeds(one, other)
    if not isinstance(thing, tuple) or not all([is_pair(one, other, pair, guard) for pair in thing]):
        return False
    if not all([lesser < greater for lesser, greater in zip(thing, thing[1:])]):
        return False
    return is_shut(Machine(one, guard), Machine(other, guard), thing)


def is_pair(one, other, thing, guard):
    """Whether it is a pair of a shadow of the one and a shadow of the other."""
    if not is_row(thing, 2, 2):
        return False
    return is_shadow(one, thing[0], guard=guard) and is_shadow(other, thing[1], guard=guard)


def is_shut(one, other, pairs):
    """Whether each bit deed leads from each pair into the pairs, with the same answer, or is let from neither."""
    known = {pair: True for pair in pairs}
    for shadow, its in pairs:
        for move, answering in zip(one.moves(shadow), other.moves(its)):
            if are_parted(move, answering):
                return False
            if move is not None and (move[1], answering[1]) not in known:
                return False
    return True
