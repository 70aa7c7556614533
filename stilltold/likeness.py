"""Shadows that are like, and the row of bit deeds that parts those that aren't."""

from stilltold.machines import Machine, are_parted, least_likes
from stilltold.programs import need_same_deeds


def parting(one, shadow, other, its, *, guard=None):
    """The least row of bit deeds that parts the two shadows; None where they are like."""
    need_same_deeds(one, other)
    row, pairs = gone_through(Machine(one, guard), Machine(other, guard), (shadow, its))
    return row


def table(one, shadow, other, its, *, guard=None):
    """The least table that has this pair; None where the two shadows aren't like."""
    need_same_deeds(one, other)
    row, pairs = gone_through(Machine(one, guard), Machine(other, guard), (shadow, its))
    return tuple(sorted(pairs)) if row is None else None


def least_like(program, shadow, *, guard=None):
    """The least shadow of the program that is like this one."""
    return least_likes(program, guard)[shadow]


def gone_through(one, other, pair):
    """(the least row that parts the pair, or None; the pairs come to by then), of two machines."""
    seen = {pair: True}
    level = [((), pair)]
    # Level by level and deed by deed as they rise, so that the first row found is the least.
    while level:
        deeper = []
        for row, (shadow, its) in level:
            for deed, move, answering in zip(one.deeds, one.moves(shadow), other.moves(its)):
                if are_parted(move, answering):
                    return (*row, deed), seen
                if move is not None and (move[1], answering[1]) not in seen:
                    seen[move[1], answering[1]] = True
                    deeper.append(((*row, deed), (move[1], answering[1])))
        level = deeper
    return None, seen
