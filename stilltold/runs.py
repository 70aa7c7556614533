"""Histories, and programs at work."""

from stilltold.errors import NoDeed, NotLet
from stilltold.guards import guard_or_free
from stilltold.plain import is_whole
from stilltold.programs import deed_number, done


def is_history(program, thing, *, guard=None):
    """Whether it is a history that the guard lets."""
    if not isinstance(thing, tuple):
        return False
    places = guard_or_free(program, guard)
    place = 0
    for deed in thing:
        number = deed_number(program, deed, is_whole)
        if number is None:
            return False
        place = places[place][number]
        if place is None:
            return False
    return True


def told(program, history):
    """The answers of a fresh Run to the history."""
    if not isinstance(history, tuple):
        raise NoDeed(history)
    run = Run(program)
    return tuple([run.do(deed) for deed in history])


def ended(program, history, guard):
    """(the guard's place, the Run) at the end of the history, which is refused where it is none or isn't let."""
    if not isinstance(history, tuple):
        raise NoDeed(history)
    run = Run(program)
    for deed in history:
        run.do(deed)
    # Only now, for a deed that is none is refused ahead of one that isn't let.
    places = guard_or_free(program, guard)
    place = 0
    for deed in history:
        place = places[place][deed_number(program, deed, is_whole)]
        if place is None:
            raise NotLet(deed)
    return place, run


def notes_of(deed, at):
    """The notes that the deed brings, done as the at-th."""
    return tuple([(number, at, place) for place, number in enumerate(deed[1:])])


def notes_that_came(history):
    """The notes of all deeds of the history, rising."""
    return sorted([note for at, deed in enumerate(history) for note in notes_of(deed, at)])


class Run:
    """A program at work: its mode, what its cells hold, how many deeds were done."""

    def __init__(self, program, *, mode=0, held=None, at=0):
        self.plan = program
        self.phase = mode
        self.cells = ((),) * len(program[0]) if held is None else held
        self.ahead = at

    def do(self, deed):
        """Do the deed and tell the answer: None where nothing is told, else a note or none."""
        number = deed_number(self.plan, deed, is_whole)
        if number is None:
            raise NoDeed(deed)
        came = notes_of(deed, self.ahead)
        answer, self.phase, self.cells = done(self.plan, self.phase, number, self.cells, came, ())
        self.ahead += 1
        return answer

    def mode(self):
        """The number of the mode it is in."""
        return self.phase

    def held(self):
        """What the cells hold, in order."""
        return self.cells

    def at(self):
        """How many deeds were done."""
        return self.ahead

    def copy(self):
        """A Run alike, of its own."""
        return Run(self.plan, mode=self.phase, held=self.cells, at=self.ahead)

    def __eq__(self, other):
        return (isinstance(other, Run) and self.plan == other.plan and self.phase == other.phase
                and self.cells == other.cells and self.ahead == other.ahead)

    def __len__(self):
        return len([note for note in self.cells if note != ()])
