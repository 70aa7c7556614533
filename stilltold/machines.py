"""Programs and guards as machines of bits, and which of their shadows are like."""

from stilltold.guards import guard_or_free
from stilltold.plain import is_bit
from stilltold.programs import deed_number
from stilltold.shadows import bit_deeds, bit_rows, moved


class Machine:
    """A program and its guard under a bar; what a shadow's bit deeds do is worked out once."""

    def __init__(self, program, guard):
        self.plan = program
        self.places = guard_or_free(program, guard)
        self.deeds = bit_deeds(program)
        self.numbers = [deed_number(program, deed, is_bit) for deed in self.deeds]
        self.known = {}

    def moves(self, shadow):
        """For each bit deed, rising: (answer, shadow behind), or None where it isn't let."""
        if shadow not in self.known:
            self.known[shadow] = [moved(self.plan, self.places, shadow, number, deed[1:])
                                  for number, deed in zip(self.numbers, self.deeds)]
        return self.known[shadow]

    def all_shadows(self):
        """All shadows, come to or not, rising."""
        cells, deeds, modes = self.plan
        rows = bit_rows(len(cells))
        return [(place, mode, bits) for place in range(len(self.places)) for mode in range(len(modes)) for bits in rows]


def like_kinds(machines):
    """For each (number of a machine, shadow) the number of its kind: like shadows are of one kind."""
    nodes = [(which, shadow) for which, machine in enumerate(machines) for shadow in machine.all_shadows()]
    kinds = {node: 0 for node in nodes}
    finer = parted_kinds(machines, nodes, kinds)
    # In each round those are parted that a row of one more deed parts, until a round parts none.
    while max(list(finer.values())) > max(list(kinds.values())):
        kinds = finer
        finer = parted_kinds(machines, nodes, kinds)
    return kinds


def parted_kinds(machines, nodes, kinds):
    """The kinds parted further, by what one deed does; numbered as they are first met."""
    numbers = {}
    finer = {}
    for which, shadow in nodes:
        seen = [None if move is None else (move[0], kinds[which, move[1]]) for move in machines[which].moves(shadow)]
        finer[which, shadow] = numbers.setdefault((kinds[which, shadow], tuple(seen)), len(numbers))
    return finer


def least_likes(program, guard):
    """For each shadow the least one that is like it."""
    machine = Machine(program, guard)
    kinds = like_kinds([machine])
    least = {}
    for shadow in machine.all_shadows():
        least.setdefault(kinds[0, shadow], shadow)
    return {shadow: least[kinds[0, shadow]] for shadow in machine.all_shadows()}


def are_parted(move, answering):
    """Whether a bit deed, by what it does to two shadows, is let from just one of both, or answered otherwise."""
    if move is None or answering is None:
        return not (move is None and answering is None)
    return move[0] != answering[0]
