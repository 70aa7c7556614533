"""Programs, guards and histories read from their texts."""

from stilltold.errors import NoText
from stilltold.guards import MOST_PLACES, is_guard
from stilltold.programs import MOST_MODES, are_cells, are_deeds, is_program
from stilltold.words import read_choice, read_deed, read_number


def read_program(text):
    """The program that is so written."""
    rows = rows_of(text)
    cells = tuple(rows[0][1:])
    if rows[0][0] != "cells" or not are_cells(cells):
        raise NoText(0)
    deeds = read_deeds(rows)
    modes = []
    at = 1 + len(deeds)
    while at < len(rows):
        if not fits(rows, at, "mode", 1) or len(modes) == MOST_MODES:
            raise NoText(at)
        at, mode = read_mode(cells, deeds, rows, at + 1)
        modes.append(mode)
    program = (cells, deeds, tuple(modes))
    # All rows stand, so that only modes can be missing: all of them, or one to which a rule leads.
    if not is_program(program):
        raise NoText(len(rows))
    return program


def read_guard(deeds, text):
    """The guard of these deeds that is so written."""
    rows = rows_of(text)
    places = []
    at = 0
    while at < len(rows):
        if not fits(rows, at, "place", 1) or len(places) == MOST_PLACES:
            raise NoText(at)
        at, place = read_place(deeds, rows, at + 1)
        places.append(place)
    guard = tuple(places)
    if not is_guard(deeds, guard):
        raise NoText(len(rows))
    return guard


def read_history(deeds, text):
    """The history that is so written."""
    if not isinstance(text, str):
        raise NoText(0)
    if text == "-":
        return ()
    history = tuple([read_deed(deeds, part) for part in text.split(", ")])
    if None in history:
        raise NoText(0)
    return history


def rows_of(text):
    """The words of each row; blanks at an end or two together make an empty word, which is of no form anywhere."""
    if not isinstance(text, str):
        raise NoText(0)
    return [row.split(" ") for row in text.split("\n")]


def fits(rows, at, word, many):
    """Whether there is a row of this number with so many words, the first of them this one."""
    # A row that must come and is missing is asked for too: its number is how many rows there are.
    return at < len(rows) and len(rows[at]) == many and rows[at][0] == word


def begins(rows, at, word):
    """Whether there is a row of this number that begins with this word."""
    return at < len(rows) and rows[at][0] == word


def read_deeds(rows):
    """The deeds, from the rows behind the first one."""
    deeds = ()
    at = 1
    while begins(rows, at, "deed") or at == 1:
        if not fits(rows, at, "deed", 3) or not are_deeds((*deeds, (rows[at][1], read_number(rows[at][2])))):
            raise NoText(at)
        deeds = (*deeds, (rows[at][1], read_number(rows[at][2])))
        at += 1
    return deeds


def read_mode(cells, deeds, rows, at):
    """(the number of the row behind it, the mode), from this row on."""
    rules = []
    for name, many in deeds:
        if not fits(rows, at, "on", 3) or rows[at][1] != name or read_number(rows[at][2]) is None:
            raise NoText(at)
        after = read_number(rows[at][2])
        at, becomes = read_sets(cells, many, rows, at + 1)
        tells = None
        if begins(rows, at, "tell"):
            tells = read_choice(cells, many, rows[at][1]) if fits(rows, at, "tell", 2) else None
            if tells is None:
                raise NoText(at)
            at += 1
        rules.append((after, becomes, tells))
    return at, tuple(rules)


def read_sets(cells, many, rows, at):
    """(the number of the row behind them, what the cells become), from this row on."""
    becomes = [None] * len(cells)
    left = list(cells)
    while begins(rows, at, "set"):
        choice = read_choice(cells, many, rows[at][2]) if fits(rows, at, "set", 3) else None
        if choice is None or rows[at][1] not in left:
            raise NoText(at)
        number = cells.index(rows[at][1])
        becomes[number] = choice
        left = list(cells[number + 1:])
        at += 1
    return at, tuple(becomes)


def read_place(deeds, rows, at):
    """(the number of the row behind it, the place), from this row on."""
    names = [name for name, many in deeds]
    place = [None] * len(names)
    left = names
    while begins(rows, at, "let"):
        behind = read_number(rows[at][2]) if fits(rows, at, "let", 3) else None
        if behind is None or rows[at][1] not in left:
            raise NoText(at)
        number = names.index(rows[at][1])
        place[number] = behind
        left = names[number + 1:]
        at += 1
    return at, tuple(place)
