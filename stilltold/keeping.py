"""Keepers: programs that go on by nothing but stairs."""

from stilltold.errors import NoPlace, NothingDone
from stilltold.machines import least_likes
from stilltold.placing import in_place
from stilltold.runs import notes_of
from stilltold.shadows import shadows_between
from stilltold.stairs import first_stair, last_place, let_number, stepped_on


class Mark:
    """A thing that is equal to itself alone."""


class Keeper:
    """A program that goes on by its stair: it holds just the notes that can still be told."""

    def __init__(self, program, *, guard=None, keep=True):
        self.plan = program
        self.guard = guard
        self.keep = keep
        # All that is like is worked out once, not at each deed.
        self.likes = least_likes(program, guard)
        self.steps = first_stair(program, guard=guard)
        self.ahead = 0
        self.past = []
        self.mark = Mark()

    def do(self, deed):
        """Do the deed and tell the answer, as the program would: None where nothing is told, else a note or none."""
        number = let_number(self.plan, self.steps, deed, self.guard)
        came = notes_of(deed, self.ahead)
        answer, steps = stepped_on(self.plan, self.steps, came, number, self.guard, self.likes)
        self.remember()
        self.steps = steps
        self.ahead += 1
        return answer

    def stair(self):
        """The stair as it is now."""
        return self.steps

    def at(self):
        """How many deeds were done."""
        return self.ahead

    def held(self):
        """The notes that are held."""
        return self.steps[1]

    def program(self):
        """The program that goes on."""
        return self.plan

    def put(self, other):
        """Go on with the other program, and tell the mode and the cells from which it does."""
        moment = in_place(self.plan, self.steps, other, guard=self.guard)
        if moment is None:
            raise NoPlace()
        mode, cells = moment
        shadows = shadows_between(last_place(self.steps), mode, cells, self.steps[1])
        self.remember()
        self.plan = other
        self.likes = least_likes(other, self.guard)
        self.steps = tuple([self.likes[shadow] for shadow in shadows]), self.steps[1]
        return moment

    def back(self):
        """Take back the last deed that was done or program that was put."""
        if len(self.past) == 0:
            raise NothingDone()
        self.plan, self.likes, self.steps, self.ahead = self.past.pop()

    def remember(self):
        """Lay down what back leads to, where that is kept."""
        if self.keep:
            self.past.append((self.plan, self.likes, self.steps, self.ahead))

    def __eq__(self, other):
        return isinstance(other, Keeper) and self.mark == other.mark

    def __len__(self):
        return len(self.steps[1])
