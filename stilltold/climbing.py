"""What a deed makes of a stair's shadows, wherever the notes between them and its numbers may lie."""

from stilltold.guards import guard_or_free
from stilltold.machines import least_likes
from stilltold.shadows import bit_rows, moved


class Climb:
    """A program and its guard, where of stairs the shadows alone are looked at."""

    def __init__(self, program, guard):
        self.plan = program
        self.places = guard_or_free(program, guard)
        self.likes = least_likes(program, guard)
        self.known = {}

    def let(self, shadow):
        """The numbers of the deeds that the shadow lets."""
        return [number for number, behind in enumerate(self.places[shadow[0]]) if behind is not None]

    def behind(self, shadows, number):
        """All (cut, shadows behind) of the deed of this number, which each of the shadows lets."""
        cuts = all_cuts(len(shadows), self.plan[1][number][1])
        return [(cut, without_alike(gaps)) for cut, gaps in zip(cuts, self.gaps_behind(shadows, number, cuts))]

    def gaps_behind(self, shadows, number, cuts):
        """For each cut the shadows behind the deed, of each gap that it leaves, neighbours that are the same too."""
        many = self.plan[1][number][1]
        went = {bits: [self.went(shadow, number, bits) for shadow in shadows] for bits in bit_rows(many)}
        return [[went[bits][gap] for gap, bits in gaps_cut(len(shadows), many, cut)] for cut in cuts]

    def went(self, shadow, number, bits):
        """The least like of the shadow behind a deed that it lets."""
        step = (shadow, number, bits)
        if step not in self.known:
            self.known[step] = self.likes[moved(self.plan, self.places, shadow, number, bits)[1]]
        return self.known[step]


def all_cuts(gaps, many):
    """All ways for so many numbers of a deed to lie in so many gaps: rows of (gap, place), as their notes rise."""
    if many == 0:
        return [()]
    if many == 1:
        return [((gap, 0),) for gap in range(gaps)]
    # Of two in one gap either may be the lesser one.
    return [((low, place), (high, 1 - place))
            for place in (0, 1) for low in range(gaps) for high in range(low, gaps)]


def gaps_cut(gaps, many, cut):
    """The gaps as the cut parts them, rising: (the gap it was, the bits of the deed's numbers under its bars)."""
    rows = []
    bits = [1] * many
    for gap in range(gaps):
        rows.append((gap, tuple(bits)))
        for place in [place for where, place in cut if where == gap]:
            bits[place] = 0
            rows.append((gap, tuple(bits)))
    return rows


def without_alike(shadows):
    """The shadows, neighbours that are the same being one."""
    return tuple([*[shadow for shadow, above in zip(shadows, shadows[1:]) if shadow != above], shadows[-1]])
