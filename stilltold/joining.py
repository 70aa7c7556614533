"""Programs behind programs: the second is handed what the first tells."""

from stilltold.errors import NoFit
from stilltold.plain import LETTERS
from stilltold.programs import MOST_CELLS, MOST_MODES, is_program


def joined(first, second, links):
    """The program that tells what the second tells of what the first tells."""
    many = len(first[0]) + len(second[0])
    # Asked ahead of all, so that nothing far too great is put together.
    if many > MOST_CELLS or len(first[2]) * len(second[2]) > MOST_MODES:
        raise NoFit()
    numbers = {name: number for number, (name, brings) in enumerate(second[1])}
    linked = [None if link is None else numbers[link] for link in links]
    modes = [joined_mode(first, second, linked, ahead, behind)
             for ahead in range(len(first[2])) for behind in range(len(second[2]))]
    program = (tuple(LETTERS[:many]), first[1], tuple(modes))
    # All else is right by its making: a choice is beyond what it may be.
    if not is_program(program):
        raise NoFit()
    return program


def joined_mode(first, second, linked, ahead, behind):
    """The mode of the first's mode ahead and the second's mode behind."""
    own = dict(zip(first[0], LETTERS))
    its = dict(zip(second[0], LETTERS[len(first[0]):]))
    rules = []
    for rule, number in zip(first[2][ahead], linked):
        # Where nothing is linked the second stays as it is.
        after, becomes, tells = (behind, (None,) * len(its), None) if number is None else second[2][behind][number]
        told = ("none",) if rule[2] is None else with_names(rule[2], own, None)
        cells = [with_names(choice, own, None) for choice in rule[1]]
        cells.extend([with_names(choice, its, told) for choice in becomes])
        rules.append((rule[0] * len(second[2]) + after, tuple(cells), with_names(tells, its, told)))
    return tuple(rules)


def with_names(choice, names, told):
    """The choice by the new names of its cells, with what was told, if something is handed in, for what came."""
    if choice is None or choice[0] == "none":
        return choice
    if choice[0] == "cell":
        return ("cell", names[choice[1]])
    if choice[0] == "came":
        return choice if told is None else told
    return (*choice[:-1], tuple([with_names(part, names, told) for part in choice[-1]]))
