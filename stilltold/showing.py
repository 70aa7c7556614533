"""Programs, guards, histories, answers and stairs as texts."""


def show_program(program):
    """The program's text."""
    cells, deeds, modes = program
    rows = [" ".join(["cells", *cells])]
    rows.extend([f"deed {name} {many}" for name, many in deeds])
    for mode in modes:
        rows.append("mode")
        for deed, rule in zip(deeds, mode):
            rows.extend(rule_rows(cells, deed[0], rule))
    return "\n".join(rows)


def rule_rows(cells, name, rule):
    """The rows of a rule of the deed that is so called."""
    after, becomes, tells = rule
    rows = [f"on {name} {after}"]
    rows.extend([f"set {cell} {show_choice(choice)}" for cell, choice in zip(cells, becomes) if choice is not None])
    if tells is not None:
        rows.append(f"tell {show_choice(tells)}")
    return rows


def show_choice(choice):
    """The choice's text, without blanks."""
    word = choice[0]
    if word == "none":
        return word
    if word == "cell":
        return choice[1]
    if word == "came":
        return f"came{choice[1]}"
    inner = ",".join([show_choice(part) for part in choice[-1]])
    return f"kth({choice[1]};{inner})" if word == "kth" else f"{word}({inner})"


def show_guard(deeds, guard):
    """The guard's text."""
    rows = []
    for place in guard:
        rows.append("place")
        rows.extend([f"let {deed[0]} {behind}" for deed, behind in zip(deeds, place) if behind is not None])
    return "\n".join(rows)


def show_history(history):
    """The history's text, in one row."""
    if len(history) == 0:
        return "-"
    return ", ".join([" ".join([str(part) for part in deed]) for deed in history])


def show_answer(answer):
    """The text of what was told: a note, none, or nothing."""
    if answer is None:
        return "-"
    if answer == ():
        return "none"
    number, at, place = answer
    return f"{number}@{at}.{place}"


def show_stair(stair):
    """The stair's text: its shadows and notes by turns."""
    shadows, notes = stair
    words = [show_shadow(shadows[0])]
    for note, shadow in zip(notes, shadows[1:]):
        words.extend([show_answer(note), show_shadow(shadow)])
    return " ".join(words)


def show_shadow(shadow):
    """The shadow's text."""
    place, mode, bits = shadow
    row = "".join([str(bit) for bit in bits]) if bits else "-"
    return f"{place}.{mode}.{row}"
