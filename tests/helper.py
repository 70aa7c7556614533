"""What the tests share: things of any kind, things that are nearly right, and a second judge of choices."""

import copy
import re

HUGE = int("9" * 60)


def nested(depth, wrap):
    """Something that is wrapped so many times."""
    thing = 0
    for step in range(depth):
        thing = wrap(thing)
    return thing


ANYTHING = (
    None, True, False, 0, 1, 2, 3, -1, 7, HUGE, -HUGE,
    "", " ", "a", "b", "z", "none", "cell", "came", "kth", "greatest", "least", "push", "Push", "a1", "abcdefghi", "()",
    (), ((),), ((), (), ()), (0,), (None,), ("none",), ("none", "none"), (1, 2), (1, 2, 0), (1, 2, 0, 0),
    ("a", "b", "c"),
    (("a",), (("push", 1),), (((0, (None,), None),),)),
    [], [0], ["none"], [1, 2, 0], [()], [[]], ([],), ({},), [None, None, None],
    {}, {0: 1}, {"none": ()}, {"a": (1, 2, 0)}, {1: {2: [3]}},
    nested(30, lambda thing: (thing,)), nested(30, lambda thing: [thing]), nested(30, lambda thing: {"a": thing}),
    nested(15, lambda thing: [(thing, thing)]),
)

# What is put in or exchanged where a thing is to be nearly right: few, for they are put everywhere.
FOREIGN = (None, True, False, 0, 1, 2, 3, -1, "", "a", "b", "none", (), ("none",), ("cell", "a"), ["none"], [], {})


def nearly(thing, foreign=FOREIGN):
    """All things that differ from this one in one place, at any depth."""
    yield from foreign
    if isinstance(thing, tuple):
        yield list(thing)
        for at, part in enumerate(thing):
            ahead, behind = thing[:at], thing[at + 1:]
            yield ahead + behind
            yield ahead + (part, part) + behind
            yield (part,) + ahead + behind
            for other in foreign:
                yield ahead + (other, part) + behind
            for other in nearly(part, foreign):
                yield ahead + (other,) + behind
        for other in foreign:
            yield thing + (other,)


def kept_as_is(test, function, *given, **named):
    """What the function tells, seen to be the same when asked again, all that is handed in being left as it was."""
    before = copy.deepcopy((given, named))
    told = function(*given, **named)
    test.assertEqual(function(*given, **named), told)
    test.assertEqual((given, named), before)
    return told


class Judges:
    """Assertions that a question is told True or False itself."""

    def yes(self, function, *given, **named):
        self.assertIs(function(*given, **named), True, (given, named))

    def no(self, function, *given, **named):
        self.assertIs(function(*given, **named), False, (given, named))


class Wrong(Exception):
    """What the second judge raises of what is not right."""


def need(holds):
    if not holds:
        raise Wrong()


def whole(thing):
    return type(thing) is int


def name(thing):
    words = "none cell came kth greatest least".split()
    return type(thing) is str and re.fullmatch("[a-z]{1,8}", thing) is not None and thing not in words


def measured(cells, many, thing):
    """Size and depth of a choice, told by the document's words one after the other; Wrong where it is none."""
    need(type(thing) is tuple and thing and type(thing[0]) is str)
    word, rest = thing[0], thing[1:]
    if word == "none":
        need(rest == ())
        return 1, 1
    if word == "cell":
        need(len(rest) == 1 and name(rest[0]) and rest[0] in cells)
        return 1, 1
    if word == "came":
        need(len(rest) == 1 and whole(rest[0]) and rest[0] in (0, 1) and rest[0] < many)
        return 1, 1
    need(word in ("kth", "greatest", "least") and len(rest) == (2 if word == "kth" else 1))
    need(type(rest[-1]) is tuple and 1 <= len(rest[-1]) <= 5)
    need(word != "kth" or whole(rest[0]) and 1 <= rest[0] <= len(rest[-1]))
    inner = [measured(cells, many, part) for part in rest[-1]]
    return 1 + sum(size for size, depth in inner), 1 + max(depth for size, depth in inner)


def judged_choice(cells, many, thing):
    try:
        size, depth = measured(cells, many, thing)
    except Wrong:
        return False
    return size <= 60 and depth <= 8


def kth_by_counting(things, k):
    """The one that fewer than k are above and that at least k are no lesser than."""
    fit = [x for x in things if sum(y > x for y in things) < k <= sum(y >= x for y in things)]
    return fit[0]


def chosen_by_counting(choice, held, came, none=()):
    word = choice[0]
    if word in ("none", "cell", "came"):
        return {"none": lambda: none, "cell": lambda: held[choice[1]], "came": lambda: came[choice[1]]}[word]()
    things = [chosen_by_counting(part, held, came, none) for part in choice[-1]]
    return kth_by_counting(things, {"greatest": 1, "least": len(things)}.get(word, choice[1]))


def bare_program(cells, deeds, modes):
    """A program of so many modes that keeps its cells and tells nothing."""
    return (cells, deeds, tuple(tuple((0, (None,) * len(cells), None) for deed in deeds) for mode in range(modes)))


TOP = ("cell", "top")
FIRST, SECOND = ("came", 0), ("came", 1)

# Tells the greatest that ever came; a deed is called like the cell.
GREATEST = (("top",), (("top", 1), ("ask", 0)),
            (((0, (("greatest", (TOP, FIRST)),), None), (0, (None,), TOP)),))

# Holds the last three, tells their middle one, and at each deed what was let go.
MIDDLE = (("a", "b", "c"), (("push", 1), ("ask", 0)),
          (((0, (FIRST, ("cell", "a"), ("cell", "b")), ("cell", "c")),
            (0, (None, None, None), ("kth", 2, (("cell", "a"), ("cell", "b"), ("cell", "c"))))),))

# Puts a pair, turns it about, and in another mode holds the lesser ones.
PAIR = (("a", "b"), (("put", 2), ("turn", 0), ("one", 1)),
        (((0, (FIRST, SECOND), ("greatest", (FIRST, SECOND))),
          (1, (("cell", "b"), ("cell", "a")), None),
          (0, (("least", (("cell", "a"), FIRST)), None), ("none",))),
         ((1, (("least", (FIRST, SECOND)), ("least", (("cell", "b"), SECOND))), None),
          (0, (("cell", "b"), ("cell", "a")), ("cell", "a")),
          (0, (None, ("none",)), ("kth", 3, (("cell", "a"), FIRST, ("cell", "b")))))))

# A guard of PAIR: put is let once, then turn as often as one likes, then one, and nothing behind it.
ORDER = ((1, None, None), (None, 1, 2), (None, None, None))

NOTHING = ((), (("ask", 0),), (((0, (), None),),))
ECHO = ((), (("say", 2),), (((1, (), FIRST),), ((0, (), SECOND),)))

PROGRAMS = (GREATEST, MIDDLE, PAIR, NOTHING, ECHO)


def any_choice(chance, cells, many, depth):
    """A choice by chance, of depth at most so much."""
    leaves = [("none",)] + [("cell", cell) for cell in cells] * 2 + [("came", n) for n in range(many)] * 2
    if depth < 2 or chance.random() < 0.4:
        return chance.choice(leaves)
    parts = tuple(any_choice(chance, cells, many, depth - 1) for at in range(chance.randint(1, 3)))
    word = chance.choice(("kth", "greatest", "least"))
    return (word, chance.randint(1, len(parts)), parts) if word == "kth" else (word, parts)


def any_program(chance):
    """A program by chance, with few cells and modes."""
    cells = tuple("abcd"[:chance.randint(0, 4)])
    deeds = tuple((name, chance.randint(0, 2)) for name in "xayz"[:chance.randint(1, 4)])
    modes = chance.randint(1, 3)

    def rule(many):
        becomes = tuple(chance.choice((None, any_choice(chance, cells, many, 4))) for cell in cells)
        tells = None if chance.random() < 0.2 else any_choice(chance, cells, many, 4)
        return (chance.randrange(modes), becomes, tells)

    return (cells, deeds, tuple(tuple(rule(many) for name, many in deeds) for mode in range(modes)))


def any_guard(chance, deeds):
    """A guard by chance, which lets at least one deed at each place."""
    places = chance.randint(1, 4)
    rows = [[chance.choice((None, chance.randrange(places))) for deed in deeds] for place in range(places)]
    for row in rows:
        row[chance.randrange(len(row))] = chance.randrange(places)
    return tuple(tuple(row) for row in rows)


def any_history(chance, program, many, guard=None, numbers=range(-3, 4)):
    """A history by chance that the guard lets."""
    history, place = [], 0
    for step in range(many):
        let = [at for at in range(len(program[1])) if guard is None or guard[place][at] is not None]
        at = chance.choice(let)
        name, brings = program[1][at]
        history.append((name,) + tuple(chance.choice(numbers) for number in range(brings)))
        place = 0 if guard is None else guard[place][at]
    return tuple(history)


def worked(program, history):
    """Of each deed (answer, mode, held), told by the document's words over dicts."""
    cells, deeds, modes = program
    mode, held, rows = 0, {cell: () for cell in cells}, []
    for at, (called, *numbers) in enumerate(history):
        after, becomes, tells = modes[mode][[deed[0] for deed in deeds].index(called)]
        came = [(number, at, place) for place, number in enumerate(numbers)]
        answer = None if tells is None else chosen_by_counting(tells, held, came)
        held = {cell: held[cell] if choice is None else chosen_by_counting(choice, held, came)
                for cell, choice in zip(cells, becomes)}
        mode = after
        rows.append((answer, mode, tuple(held[cell] for cell in cells)))
    return rows
