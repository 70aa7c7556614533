"""Programs: cells, deeds, and the rules by which a deed is done."""

from stilltold.choices import is_choice, picked
from stilltold.errors import NoPair
from stilltold.plain import are_unlike_names, is_row, is_within

MOST_CELLS = 6
MOST_DEEDS = 4
MOST_NUMBERS = 2
MOST_MODES = 6


def is_program(thing):
    """Whether it is a program: (cells, deeds, modes)."""
    if not is_row(thing, 3, 3):
        return False
    cells, deeds, modes = thing
    if not are_cells(cells) or not are_deeds(deeds) or not is_row(modes, 1, MOST_MODES):
        return False
    return all([is_mode(cells, deeds, len(modes), mode) for mode in modes])


def are_cells(thing):
    """Whether it is the row of a program's cells."""
    return is_row(thing, 0, MOST_CELLS) and are_unlike_names(thing)


def are_deeds(thing):
    """Whether it is the row of a program's deeds: (name, many) each."""
    if not is_row(thing, 1, MOST_DEEDS) or not all([is_row(deed, 2, 2) for deed in thing]):
        return False
    if not are_unlike_names([deed[0] for deed in thing]):
        return False
    return all([is_within(deed[1], 0, MOST_NUMBERS) for deed in thing])


def is_mode(cells, deeds, modes, thing):
    """Whether it is a mode of these cells and deeds, one of so many modes."""
    if not is_row(thing, len(deeds), len(deeds)):
        return False
    return all([is_rule(cells, deed[1], modes, rule) for deed, rule in zip(deeds, thing)])


def is_rule(cells, many, modes, thing):
    """Whether it is a rule of a deed that brings so many numbers."""
    if not is_row(thing, 3, 3):
        return False
    after, becomes, tells = thing
    if not is_within(after, 0, modes - 1) or not is_row(becomes, len(cells), len(cells)):
        return False
    return all([choice is None or is_choice(cells, many, choice) for choice in (*becomes, tells)])


def need_same_deeds(one, other):
    """Refuse two programs that have not the same deeds in the same order."""
    if one[1] != other[1]:
        raise NoPair()


def deed_number(program, thing, fits):
    """The number of the program's deed that this thing does, with numbers that fit; None where it is no such deed."""
    if not isinstance(thing, tuple) or len(thing) == 0 or not all([fits(part) for part in thing[1:]]):
        return None
    for number, (name, many) in enumerate(program[1]):
        if name == thing[0] and many == len(thing) - 1:
            return number
    return None


def done(program, mode, number, held, came, none):
    """(answer, mode behind, what the cells hold then) of a deed, over notes or over bits alike."""
    after, becomes, tells = program[2][mode][number]
    # All is chosen of the cells as they were: no choice sees what another one makes of a cell.
    named = dict(zip(program[0], held))
    answer = None if tells is None else picked(tells, named, came, none)
    behind = [old if choice is None else picked(choice, named, came, none) for old, choice in zip(held, becomes)]
    return answer, after, tuple(behind)
