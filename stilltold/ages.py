"""Ages: how many deeds behind its coming a note is told at the latest."""

from stilltold.guards import guard_or_free
from stilltold.machines import Machine, least_likes, like_kinds
from stilltold.plain import is_row, is_whole
from stilltold.programs import deed_number
from stilltold.runs import is_history, told
from stilltold.shadows import first_shadow, moved
from stilltold.stairs import stair_of
from stilltold.ways import with_numbers

# The number of the note whose age is looked at; all other numbers of the histories told here are one more or less.
WATCHED = 1


def oldest(program, *, guard=None):
    """("never",), ("age", the greatest age, a history), or ("ever", begin, ring) where there is no greatest."""
    machine = Machine(program, guard)
    births = all_births(machine)
    begins = {}
    for history, low, high in births:
        begins.setdefault((low[1], high[1]), history)
    steps = live_steps(machine, begins)
    lasts = most_deeds(steps)
    endless = [pair for pair in begins if pair in steps and pair not in lasts]
    if endless:
        row, ring = ring_behind(steps, lasts, endless[0])
        return ("ever", begins[endless[0]] + watching(row), watching(ring))
    living = [pair for pair in begins if pair in lasts]
    if living:
        pair = max(living, key=lambda one: lasts[one])
        return ("age", lasts[pair], begins[pair] + watching(latest_row(machine, steps, lasts, pair)))
    at_once = [history for history, low, high in births if is_telling(low, high)]
    return ("age", 0, at_once[0]) if at_once else ("never",)


def all_births(machine):
    """All (history, low, high): what its last deed, which brings the note, does up to the note and just above it."""
    births = []
    for shadow, row in ways_to_shadows(machine).items():
        moves = dict(zip(machine.deeds, machine.moves(shadow)))
        for deed in [deed for deed in machine.deeds if moves[deed] is not None]:
            for place in [place for place in range(1, len(deed)) if deed[place] == 1]:
                above = (*deed[:place], 0, *deed[place + 1:])
                births.append((birth(row, deed, place), moves[deed], moves[above]))
    return births


def birth(row, deed, place):
    """The history of the row and the deed, by which the watched note comes at this place."""
    came = watching((deed,))[0]
    return (*watching(row), (*came[:place], WATCHED, *came[place + 1:]))


def watching(row):
    """The row of bit deeds with a number above the watched note for each 1, one below it for each 0."""
    return with_numbers(row, ((WATCHED, 0, 0),))


def ways_to_shadows(machine):
    """For each shadow that is come to a shortest row of bit deeds that leads to it, the shortest first."""
    first = first_shadow(machine.plan)
    ways = {first: ()}
    level = [first]
    while level:
        deeper = []
        for shadow in level:
            for deed, move in zip(machine.deeds, machine.moves(shadow)):
                if move is not None and move[1] not in ways:
                    ways[move[1]] = (*ways[shadow], deed)
                    deeper.append(move[1])
        level = deeper
    return ways


def is_telling(low, high):
    """Whether a deed, by what it does up to a note and just above it, tells this very note."""
    return low[0] == 1 and high[0] == 0


def live_steps(machine, pairs):
    """For each pair come to from these, of a note that is held: all (bit deed, pair behind) that leave it held."""
    # Of a note the shadows up to it and just above it are all that counts: where they are like it is gone.
    kinds = like_kinds([machine])
    steps = {}
    left = list(pairs)
    while left:
        pair = left.pop()
        if pair not in steps and kinds[0, pair[0]] != kinds[0, pair[1]]:
            steps[pair] = both_moves(machine, pair)
            left.extend([behind for deed, behind in steps[pair]])
    return {pair: [step for step in steps[pair] if step[1] in steps] for pair in steps}


def both_moves(machine, pair):
    """All (bit deed, pair behind it) that are let; both shadows of the pair are of one place."""
    low, high = machine.moves(pair[0]), machine.moves(pair[1])
    return [(deed, (one[1], other[1])) for deed, one, other in zip(machine.deeds, low, high) if one is not None]


def most_deeds(steps):
    """How many deeds at the most, the last of which tells the note, for each pair from which no ring is come to."""
    ahead = {pair: [] for pair in steps}
    for pair in steps:
        for deed, behind in steps[pair]:
            ahead[behind].append(pair)
    left = {pair: len(steps[pair]) for pair in steps}
    ready = [pair for pair in steps if left[pair] == 0]
    lasts = {}
    while ready:
        pair = ready.pop()
        lasts[pair] = 1 + max([0, *[lasts[behind] for deed, behind in steps[pair]]])
        for one in ahead[pair]:
            left[one] -= 1
            if left[one] == 0:
                ready.append(one)
    return lasts


def ring_behind(steps, lasts, pair):
    """(the row up to a ring, the ring), of bit deeds, from a pair from which one is come to."""
    row = []
    seen = {}
    while pair not in seen:
        seen[pair] = len(row)
        deed, pair = [step for step in steps[pair] if step[1] not in lasts][0]
        row.append(deed)
    return row[:seen[pair]], row[seen[pair]:]


def latest_row(machine, steps, lasts, pair):
    """A row of as many bit deeds as there can be whose last one tells the note."""
    row = []
    while lasts[pair] > 1:
        deed, pair = [(deed, behind) for deed, behind in steps[pair] if lasts[behind] == lasts[pair] - 1][0]
        row.append(deed)
    low, high = machine.moves(pair[0]), machine.moves(pair[1])
    telling = [deed for deed, one, other in zip(machine.deeds, low, high) if one is not None and is_telling(one, other)]
    return [*row, telling[0]]


def shows_oldest(program, thing, *, guard=None):
    """Whether it is what oldest could tell."""
    if is_row(thing, 1, 1):
        return thing[0] == "never" and oldest(program, guard=guard) == ("never",)
    if not is_row(thing, 3, 3):
        return False
    word, one, other = thing
    if word == "age":
        if not is_whole(one) or one != last_age(program, other, guard):
            return False
        return oldest(program, guard=guard)[:2] == ("age", one)
    return word == "ever" and is_ever(program, one, other, guard)


def last_age(program, thing, guard):
    """The age of the note that the history's last deed tells; None where it tells none, or is no history."""
    if thing == () or not is_history(program, thing, guard=guard):
        return None
    answer = told(program, thing)[-1]
    return len(thing) - 1 - answer[1] if answer else None


def is_ever(program, begin, ring, guard):
    """Whether a note that came by begin is held behind ring, and ring, and so on for ever."""
    if not isinstance(begin, tuple) or not isinstance(ring, tuple) or len(ring) == 0:
        return False
    if not is_history(program, begin + ring, guard=guard):
        return False
    shadows, notes = stair_of(program, begin, guard=guard)
    likes = least_likes(program, guard)
    return any([is_held_for_ever(program, (low, high), note, ring, guard, likes)
                for low, high, note in zip(shadows, shadows[1:], notes)])


def is_held_for_ever(program, pair, note, ring, guard, likes):
    """Whether the note is held behind ring however often, which is let as often; the pair is of its shadows."""
    seen = {}
    # Equal numbers that come later are above the note, so that each time the ring does the same.
    while pair not in seen:
        seen[pair] = True
        for deed in ring:
            pair = pair_behind(program, pair, note, deed, guard)
            if pair is None:
                return False
        if likes[pair[0]] == likes[pair[1]]:
            return False
    return True


def pair_behind(program, pair, note, deed, guard):
    """The shadows up to the note and just above it behind the deed; None where it isn't let."""
    number = deed_number(program, deed, is_whole)
    bits = tuple([1 if came >= note[0] else 0 for came in deed[1:]])
    places = guard_or_free(program, guard)
    low, high = [moved(program, places, shadow, number, bits) for shadow in pair]
    return None if low is None or high is None else (low[1], high[1])
