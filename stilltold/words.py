"""Numbers, notes, deeds and choices read from one row; None is told of what is of no such form."""

from stilltold.choices import MOST_DEPTH, is_choice

FIGURES = "0123456789"
MOST_FIGURES = 70


def read_number(word):
    """The number that is so written, from 0 on."""
    if not 1 <= len(word) <= MOST_FIGURES or not all([sign in FIGURES for sign in word]):
        return None
    return None if len(word) > 1 and word[0] == "0" else int(word)


def read_whole(word):
    """The number that is so written, below 0 too."""
    if not word.startswith("-"):
        return read_number(word)
    size = read_number(word[1:])
    return None if size is None or size == 0 else -size


def read_note(word):
    """The note that is so written."""
    number, sign, rest = word.partition("@")
    at, dot, place = rest.partition(".")
    if place not in ("0", "1"):
        return None
    note = (read_whole(number), read_number(at), int(place))
    return None if None in note else note


def read_deed(deeds, row):
    """The deed done, one of these, that is so written."""
    name, *words = row.split(" ")
    numbers = [read_whole(word) for word in words]
    return None if None in numbers or (name, len(numbers)) not in deeds else (name, *numbers)


def read_choice(cells, many, word):
    """The choice, of these cells and of numbers below many, that is so written."""
    choice, end = choice_at(word, 0, 1)
    return choice if end == len(word) and is_choice(cells, many, choice) else None


def choice_at(text, at, depth):
    """(the choice that is written from there on, where it ends); (None, where it goes wrong) without one."""
    # Deeper than a choice may be nothing is looked at, however deep the brackets are.
    if depth > MOST_DEPTH:
        return None, at
    word = word_at(text, at)
    end = at + len(word)
    if text[end:end + 1] == "(":
        return among_at(text, end + 1, word, depth)
    return single(word), end


def word_at(text, at):
    """The signs from there on, up to the next one that parts choices."""
    end = at
    while end < len(text) and text[end] not in "(;,)":
        end += 1
    return text[at:end]


def single(word):
    """The choice without others in it that is so written, whether or not there is a cell that is so called."""
    if word == "none":
        return ("none",)
    if word in ("came0", "came1"):
        return ("came", int(word[-1]))
    return ("cell", word)


def among_at(text, at, word, depth):
    """(the choice among choices by this word, where it ends), read from behind its bracket on."""
    ahead = (word,)
    if word == "kth":
        figures = word_at(text, at)
        ahead = (word, read_number(figures))
        at += len(figures)
        if ahead[1] is None or text[at:at + 1] != ";":
            return None, at
        at += 1
    elif word not in ("greatest", "least"):
        return None, at
    parts = []
    while True:
        part, at = choice_at(text, at, depth + 1)
        sign = text[at:at + 1]
        parts.append(part)
        if part is None or sign not in (",", ")"):
            return None, at
        at += 1
        if sign == ")":
            return (*ahead, tuple(parts)), at
