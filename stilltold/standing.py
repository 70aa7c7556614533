"""Stands: the shadows of all stairs to which histories lead, and how many notes are ever held."""

from stilltold.climbing import Climb
from stilltold.errors import TooMany
from stilltold.shadows import are_shadows
from stilltold.stairs import first_stair

MOST = 2000


def stands(program, *, guard=None, most=MOST):
    """All stands, rising."""
    return tuple(sorted(list(all_stands(Climb(program, guard), most))))


def leads(program, stand, *, guard=None, most=MOST):
    """A shortest history behind which the stair has these shadows; None where they are no stand."""
    climb = Climb(program, guard)
    ways = all_stands(climb, most)
    if not are_shadows(program, stand, guard) or stand not in ways:
        return None
    return history_to(climb, ways, stand)


def most_held(program, *, guard=None, most=MOST):
    """(how many notes a stair has at the most, a shortest history behind which it has so many)."""
    climb = Climb(program, guard)
    ways = all_stands(climb, most)
    # Shorter histories are found first, and of the longest stands the first one is taken.
    longest = max(list(ways), key=len)
    return len(longest) - 1, history_to(climb, ways, longest)


def all_stands(climb, most):
    """For each stand its last step: (the stand ahead, the deed's number, the cut), None of the first one."""
    first = first_stair(climb.plan)[0]
    ways = {first: None}
    level = [first]
    need_few(ways, most)
    # Level by level, so that each stand is come to by as few deeds as any.
    while level:
        deeper = []
        for stand in level:
            for number in climb.let(stand[-1]):
                for cut, shadows in climb.behind(stand, number):
                    if shadows not in ways:
                        ways[shadows] = (stand, number, cut)
                        deeper.append(shadows)
                        need_few(ways, most)
        level = deeper
    return ways


def need_few(ways, most):
    """Refuse more stands than the most that was asked for."""
    if len(ways) > most:
        raise TooMany(most)


def history_to(climb, ways, stand):
    """The history that these last steps make, up to the stand."""
    steps = []
    while ways[stand] is not None:
        steps.append(ways[stand])
        stand = ways[stand][0]
    return with_ranks(climb, steps[::-1])


def with_ranks(climb, steps):
    """The history of these steps: each number is how many notes of the whole history are below it."""
    order = []
    held = []
    for at, (stand, number, cut) in enumerate(steps):
        bars = laid(order, held, [((at, place), gap) for gap, place in cut])
        gaps = climb.gaps_behind(stand, number, [cut])[0]
        held = [bar for bar, shadow, above in zip(bars, gaps, gaps[1:]) if shadow != above]
    ranks = {came: rank for rank, came in enumerate(order)}
    deeds = [climb.plan[1][number] for stand, number, cut in steps]
    return tuple([(name, *[ranks[at, place] for place in range(many)]) for at, (name, many) in enumerate(deeds)])


def laid(order, held, news):
    """What is held and what is new, rising; the new ones, each with its gap, are put into the order of all."""
    bars = []
    for gap in range(len(held) + 1):
        here = [new for new, where in news if where == gap]
        spot = order.index(held[gap - 1]) + 1 if gap > 0 else 0
        order[spot:spot] = here
        bars.extend([*here, *held[gap:gap + 1]])
    return bars
