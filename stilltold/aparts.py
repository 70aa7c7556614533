"""Programs and moments that are answered alike for ever, or the going on that parts them."""

from stilltold.likeness import gone_through, parting
from stilltold.machines import Machine
from stilltold.programs import need_same_deeds
from stilltold.shadows import first_shadow
from stilltold.stairs import shadow_under
from stilltold.tablelooks import shows_table
from stilltold.ways import with_numbers


def apart(one, stair, other, its, *, guard=None):
    """A shortest going on that is answered otherwise from both stairs, or let from just one; None without one."""
    need_same_deeds(one, other)
    notes = sorted(set([*stair[1], *its[1]]))
    machine, against = Machine(one, guard), Machine(other, guard)
    found = [gone_through(machine, against, pair)[0] for pair in parts_of_both(stair, its, notes)]
    rows = [row for row in found if row is not None]
    return with_numbers(min(rows, key=length_and_row), notes) if rows else None


def alike(one, other, *, guard=None):
    """A shortest history, of numbers 0 and 1, that parts the two programs; None where they tell the same."""
    # The first stairs hold no notes: the bits themselves are the numbers.
    return parting(one, first_shadow(one), other, first_shadow(other), guard=guard)


def shows_alike(one, other, thing, *, guard=None):
    """Whether it is a table that shows that the two programs tell the same."""
    return shows_table(one, other, thing, guard=guard) and (first_shadow(one), first_shadow(other)) in thing


def parts_of_both(stair, its, notes):
    """The pairs of both's shadows in the parts between these notes, which are the notes of both together."""
    pairs = [(shadow_under(stair, bar), shadow_under(its, bar)) for bar in notes]
    return [*pairs, (stair[0][-1], its[0][-1])]


def length_and_row(row):
    """By which rows of deeds are ordered: the shorter ones first."""
    return len(row), row
