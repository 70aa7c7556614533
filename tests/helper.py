"""What the tests share: things of any kind, things that are nearly right, and a second judge of choices."""

import copy
import itertools
import re

from stilltold.showing import show_program

HUGE = int("9" * 60)


def nested(depth, wrap):
    """Something that is wrapped so many times."""
    thing = 0
    for step in range(depth):
        thing = wrap(thing)
    return thing


ANYTHING = (
    None, True, False, 0, 1, 2, 3, -1, 7, HUGE, -HUGE,
    "", " ", "a", "b", "z", "none", "cell", "came", "kth", "greatest", "least", "push", "Push", "a1", "abcdefghi", "()",
    (), ((),), ((), (), ()), (0,), (None,), ("none",), ("none", "none"), (1, 2), (1, 2, 0), (1, 2, 0, 0),
    ("a", "b", "c"),
    (("a",), (("push", 1),), (((0, (None,), None),),)),
    [], [0], ["none"], [1, 2, 0], [()], [[]], ([],), ({},), [None, None, None],
    {}, {0: 1}, {"none": ()}, {"a": (1, 2, 0)}, {1: {2: [3]}},
    nested(30, lambda thing: (thing,)), nested(30, lambda thing: [thing]), nested(30, lambda thing: {"a": thing}),
    nested(15, lambda thing: [(thing, thing)]),
)

# What is put in or exchanged where a thing is to be nearly right: few, for they are put everywhere.
FOREIGN = (None, True, False, 0, 1, 2, 3, -1, "", "a", "b", "none", (), ("none",), ("cell", "a"), ["none"], [], {})


def nearly(thing, foreign=FOREIGN):
    """All things that differ from this one in one place, at any depth."""
    yield from foreign
    if isinstance(thing, tuple):
        yield list(thing)
        for at, part in enumerate(thing):
            ahead, behind = thing[:at], thing[at + 1:]
            yield ahead + behind
            yield ahead + (part, part) + behind
            yield (part,) + ahead + behind
            for other in foreign:
                yield ahead + (other, part) + behind
            for other in nearly(part, foreign):
                yield ahead + (other,) + behind
        for other in foreign:
            yield thing + (other,)


def kept_as_is(test, function, *given, **named):
    """What the function tells, seen to be the same when asked again, all that is handed in being left as it was."""
    before = copy.deepcopy((given, named))
    told = function(*given, **named)
    test.assertEqual(function(*given, **named), told)
    test.assertEqual((given, named), before)
    return told


class Judges:
    """Assertions that a question is told True or False itself."""

    def yes(self, function, *given, **named):
        self.assertIs(function(*given, **named), True, (given, named))

    def no(self, function, *given, **named):
        self.assertIs(function(*given, **named), False, (given, named))


class Wrong(Exception):
    """What the second judge raises of what is not right."""


def need(holds):
    if not holds:
        raise Wrong()


def whole(thing):
    return type(thing) is int


def name(thing):
    words = "none cell came kth greatest least".split()
    return type(thing) is str and re.fullmatch("[a-z]{1,8}", thing) is not None and thing not in words


def measured(cells, many, thing):
    """Size and depth of a choice, told by the document's words one after the other; Wrong where it is none."""
    need(type(thing) is tuple and thing and type(thing[0]) is str)
    word, rest = thing[0], thing[1:]
    if word == "none":
        need(rest == ())
        return 1, 1
    if word == "cell":
        need(len(rest) == 1 and name(rest[0]) and rest[0] in cells)
        return 1, 1
    if word == "came":
        need(len(rest) == 1 and whole(rest[0]) and rest[0] in (0, 1) and rest[0] < many)
        return 1, 1
    need(word in ("kth", "greatest", "least") and len(rest) == (2 if word == "kth" else 1))
    need(type(rest[-1]) is tuple and 1 <= len(rest[-1]) <= 5)
    need(word != "kth" or whole(rest[0]) and 1 <= rest[0] <= len(rest[-1]))
    inner = [measured(cells, many, part) for part in rest[-1]]
    return 1 + sum(size for size, depth in inner), 1 + max(depth for size, depth in inner)


def judged_choice(cells, many, thing):
    try:
        size, depth = measured(cells, many, thing)
    except Wrong:
        return False
    return size <= 60 and depth <= 8


def kth_by_counting(things, k):
    """The one that fewer than k are above and that at least k are no lesser than."""
    fit = [x for x in things if sum(y > x for y in things) < k <= sum(y >= x for y in things)]
    return fit[0]


def chosen_by_counting(choice, held, came, none=()):
    word = choice[0]
    if word in ("none", "cell", "came"):
        return {"none": lambda: none, "cell": lambda: held[choice[1]], "came": lambda: came[choice[1]]}[word]()
    things = [chosen_by_counting(part, held, came, none) for part in choice[-1]]
    return kth_by_counting(things, {"greatest": 1, "least": len(things)}.get(word, choice[1]))


def bare_program(cells, deeds, modes):
    """A program of so many modes that keeps its cells and tells nothing."""
    return (cells, deeds, tuple(tuple((0, (None,) * len(cells), None) for deed in deeds) for mode in range(modes)))


TOP = ("cell", "top")
FIRST, SECOND = ("came", 0), ("came", 1)

# Tells the greatest that ever came; a deed is called like the cell.
GREATEST = (("top",), (("top", 1), ("ask", 0)),
            (((0, (("greatest", (TOP, FIRST)),), None), (0, (None,), TOP)),))

# Holds the last three, tells their middle one, and at each deed what was let go.
MIDDLE = (("a", "b", "c"), (("push", 1), ("ask", 0)),
          (((0, (FIRST, ("cell", "a"), ("cell", "b")), ("cell", "c")),
            (0, (None, None, None), ("kth", 2, (("cell", "a"), ("cell", "b"), ("cell", "c"))))),))

# Puts a pair, turns it about, and in another mode holds the lesser ones.
PAIR = (("a", "b"), (("put", 2), ("turn", 0), ("one", 1)),
        (((0, (FIRST, SECOND), ("greatest", (FIRST, SECOND))),
          (1, (("cell", "b"), ("cell", "a")), None),
          (0, (("least", (("cell", "a"), FIRST)), None), ("none",))),
         ((1, (("least", (FIRST, SECOND)), ("least", (("cell", "b"), SECOND))), None),
          (0, (("cell", "b"), ("cell", "a")), ("cell", "a")),
          (0, (None, ("none",)), ("kth", 3, (("cell", "a"), FIRST, ("cell", "b")))))))

# A guard of PAIR: put is let once, then turn as often as one likes, then one, and nothing behind it.
ORDER = ((1, None, None), (None, 1, 2), (None, None, None))

NOTHING = ((), (("ask", 0),), (((0, (), None),),))
ECHO = ((), (("say", 2),), (((1, (), FIRST),), ((0, (), SECOND),)))

PROGRAMS = (GREATEST, MIDDLE, PAIR, NOTHING, ECHO)

# Tells what came last, with the deeds of GREATEST.
LAST = (("top",), GREATEST[1], (((0, (("came", 0),), None), (0, (None,), ("cell", "top"))),))

# Tells for ever what came first, with the deeds of GREATEST.
OLD = (("top",), GREATEST[1],
       (((1, (("came", 0),), None), (0, (None,), ("none",))), ((1, (None,), None), (1, (None,), ("cell", "top")))))

# A guard of GREATEST, LAST and OLD: one number is let.
ONCE = ((1, 0), (None, 1))

# Tells the second greatest of all that ever came, and forgets all at once by another deed.
SECONDS = (("hi", "lo"), (("push", 1), ("ask", 0), ("clear", 0)),
           (((0, (("greatest", (("cell", "hi"), FIRST)),
                  ("kth", 2, (("cell", "hi"), ("cell", "lo"), FIRST))), None),
             (0, (None, None), ("cell", "lo")),
             (0, (("none",), ("none",)), None)),))

# A guard of SECONDS: two pushes, then ask as often as one likes, then clear, and all begins again.
TURNS = ((1, None, None), (2, None, None), (None, 2, 0))

# A guard of SECONDS whose places 1 and 2 let the same.
TWINS = ((2, 1, None), (None, 2, 0), (None, 1, 0))

# Holds what came first, and behind it nothing more; tells it at the fourth deed.
PATIENT = (("a",), (("go", 1),),
           (((1, (FIRST,), None),), ((2, (None,), None),), ((3, (None,), None),), ((3, (None,), ("cell", "a")),)))

JUDGED = PROGRAMS + (SECONDS, PATIENT)

# Tells the greatest and the least of all that ever came; the first of them is both.
BOTH_ENDS = (("hi", "lo"), (("push", 1), ("high", 0), ("low", 0)),
             (((1, (FIRST, FIRST), None), (0, (None, None), None), (0, (None, None), None)),
              ((1, (("greatest", (("cell", "hi"), FIRST)), ("least", (("cell", "lo"), FIRST))), None),
               (1, (None, None), ("cell", "hi")), (1, (None, None), ("cell", "lo")))))


SIX = tuple(("cell", cell) for cell in "abcdef")

# All orders of six cells, in two modes: it has more than 2000 stands.
WIDE = (tuple("abcdef"), (("one", 1), ("two", 2), ("first", 0), ("swap", 0)),
        (((0, (FIRST,) + SIX[:5], None), (0, (FIRST, SECOND) + SIX[2:], None),
          (0, SIX[1:] + (("none",),), SIX[0]), (1, SIX[1:] + SIX[:1], None)),
         ((1, (None,) * 6, ("none",)), (0, (None,) * 6, None), (0, (None,) * 6, None),
          (1, (SIX[1], SIX[0]) + SIX[2:], None))))


def falling_out(many):
    """A program that holds the last ones, so many, and tells what falls out."""
    cells = tuple("abcdef"[:many])
    held = tuple(("cell", cell) for cell in cells)
    return (cells, (("push", 1),), (((0, (FIRST,) + held[:-1], held[-1]),),))


def best(many):
    """A program that holds the best ones, so many, the greatest first, and tells the last of them."""
    cells = tuple("abcdef"[:many])
    held = tuple(("cell", cell) for cell in cells)
    above = ((),) + tuple((one,) for one in held)
    becomes = tuple(("greatest", (own, ("least", higher + (FIRST,)))) for own, higher in zip(held, above))
    return (cells, (("push", 1), ("ask", 0)), (((0, becomes, None), (0, (None,) * many, held[-1])),))


def any_choice(chance, cells, many, depth):
    """A choice by chance, of depth at most so much."""
    leaves = [("none",)] + [("cell", cell) for cell in cells] * 2 + [("came", n) for n in range(many)] * 2
    if depth < 2 or chance.random() < 0.4:
        return chance.choice(leaves)
    parts = tuple(any_choice(chance, cells, many, depth - 1) for at in range(chance.randint(1, 3)))
    word = chance.choice(("kth", "greatest", "least"))
    return (word, chance.randint(1, len(parts)), parts) if word == "kth" else (word, parts)


def choice_of_size(size, leaf):
    """A choice of this size, with just one such leaf."""
    if size == 1:
        return leaf
    parts = min(5, size - 1)
    sizes = [(size - 1) // parts + (at < (size - 1) % parts) for at in range(parts)]
    return ("greatest", tuple(choice_of_size(part, leaf if at == 0 else ("none",)) for at, part in enumerate(sizes)))


def any_deeds(chance, most=4):
    return tuple((name, chance.randint(0, 2)) for name in "xayz"[:chance.randint(1, most)])


def any_program(chance, deeds=None, most_cells=4):
    """A program by chance, with few cells and modes."""
    cells = tuple("abcd"[:chance.randint(0, most_cells)])
    deeds = any_deeds(chance) if deeds is None else deeds
    modes = chance.randint(1, 3)

    def rule(many):
        becomes = tuple(chance.choice((None, any_choice(chance, cells, many, 4))) for cell in cells)
        tells = None if chance.random() < 0.2 else any_choice(chance, cells, many, 4)
        return (chance.randrange(modes), becomes, tells)

    return (cells, deeds, tuple(tuple(rule(many) for name, many in deeds) for mode in range(modes)))


def any_guard(chance, deeds):
    """A guard by chance, which lets at least one deed at each place."""
    places = chance.randint(1, 4)
    rows = [[chance.choice((None, chance.randrange(places))) for deed in deeds] for place in range(places)]
    for row in rows:
        row[chance.randrange(len(row))] = chance.randrange(places)
    return tuple(tuple(row) for row in rows)


def any_history(chance, program, many, guard=None, numbers=range(-3, 4)):
    """A history by chance that the guard lets."""
    history, place = [], 0
    for step in range(many):
        let = [at for at in range(len(program[1])) if guard is None or guard[place][at] is not None]
        at = chance.choice(let)
        name, brings = program[1][at]
        history.append((name,) + tuple(chance.choice(numbers) for number in range(brings)))
        place = 0 if guard is None else guard[place][at]
    return tuple(history)


def worked(program, history):
    """Of each deed (answer, mode, held), told by the document's words over dicts."""
    cells, deeds, modes = program
    mode, held, rows = 0, {cell: () for cell in cells}, []
    for at, (called, *numbers) in enumerate(history):
        after, becomes, tells = modes[mode][[deed[0] for deed in deeds].index(called)]
        came = [(number, at, place) for place, number in enumerate(numbers)]
        answer = None if tells is None else chosen_by_counting(tells, held, came)
        held = {cell: held[cell] if choice is None else chosen_by_counting(choice, held, came)
                for cell, choice in zip(cells, becomes)}
        mode = after
        rows.append((answer, mode, tuple(held[cell] for cell in cells)))
    return rows


def renamed(choice, names):
    """The choice with other names of cells."""
    if choice is None or choice[0] in ("none", "came"):
        return choice
    if choice[0] == "cell":
        return ("cell", names[choice[1]])
    return choice[:-1] + (tuple(renamed(part, names) for part in choice[-1]),)


def turned_about(program):
    """A program that tells the same: its cells the other way round and called otherwise."""
    cells, deeds, modes = program
    names = {cell: new for cell, new in zip(cells, "pqrstu")}

    def rule(after, becomes, tells):
        return (after, tuple(renamed(choice, names) for choice in becomes[::-1]), renamed(tells, names))

    return (tuple(names[cell] for cell in cells[::-1]), deeds,
            tuple(tuple(rule(*old) for old in mode) for mode in modes))


def with_idle_cell(program):
    """A program that tells the same: it has one more cell, ahead of the others, which nothing ever asks."""
    cells, deeds, modes = program

    def rule(many, after, becomes, tells):
        return (after, (("came", 0) if many else None,) + becomes, tells)

    return (("idle",) + cells, deeds,
            tuple(tuple(rule(many, *old) for (called, many), old in zip(deeds, mode)) for mode in modes))


def with_modes_twice(program):
    """A program that tells the same: each mode stands twice, and each deed goes over to the other half."""
    cells, deeds, modes = program

    def half(shift):
        return tuple(tuple((after + shift, becomes, tells) for after, becomes, tells in mode) for mode in modes)

    return (cells, deeds, half(len(modes)) + half(0))


def other_deeds():
    """Pairs of programs whose deeds are others: by a name, a number, the order, fewer of them, more of them."""
    deeds = (("x", 1), ("y", 0))
    others = ((("x", 1), ("z", 0)), (("x", 1), ("y", 1)), (("x", 2), ("y", 0)), (("y", 0), ("x", 1)), (("x", 1),),
              (("y", 0),), (("x", 1), ("y", 0), ("z", 0)), (("z", 0), ("x", 1), ("y", 0)))
    pairs = [(bare_program(("a",), deeds, 1), bare_program(("a",), other, 1)) for other in others]
    return pairs + [pair[::-1] for pair in pairs] + [(MIDDLE, SECONDS), (PAIR, ECHO)]


def same_telling(program):
    """Programs that tell the same as this one."""
    return [program, turned_about(program), with_idle_cell(program), with_modes_twice(program)]


def notes_of(history):
    return [(number, at, place) for at, deed in enumerate(history) for place, number in enumerate(deed[1:])]


def all_shadows(program, places):
    rows = itertools.product((0, 1), repeat=len(program[0]))
    return list(itertools.product(range(places), range(len(program[2])), rows))


def cast_by_counting(program, shadow, deed, guard):
    """What cast tells, by the document's words over dicts; the name of the refusal where it is refused."""
    cells, deeds, modes = program
    place, mode, bits = shadow
    number = [called for called, many in deeds].index(deed[0])
    behind = 0 if guard is None else guard[place][number]
    if behind is None:
        return "NotLet"
    after, becomes, tells = modes[mode][number]
    held = dict(zip(cells, bits))
    answer = None if tells is None else chosen_by_counting(tells, held, deed[1:], 0)
    then = [held[cell] if choice is None else chosen_by_counting(choice, held, deed[1:], 0)
            for cell, choice in zip(cells, becomes)]
    return answer, (behind, after, tuple(then))


def judged_shadow(program, thing, places):
    return (type(thing) is tuple and len(thing) == 3
            and whole(thing[0]) and thing[0] in range(places)
            and whole(thing[1]) and thing[1] in range(len(program[2]))
            and type(thing[2]) is tuple and len(thing[2]) == len(program[0])
            and all(whole(bit) and bit in (0, 1) for bit in thing[2]))


def bit_deeds_by_product(program):
    return sorted((called,) + bits for called, many in program[1] for bits in itertools.product((0, 1), repeat=many))


def line_of(program):
    """A program's text as it stands in a line that is said to a desk."""
    return " / ".join(show_program(program).split("\n"))


class Plain:
    """Two programs and a guard gone through plainly: all their shadows, and which of these are like."""

    def __init__(self, one, other, guard=None):
        self.one, self.other, self.guard = one, other, guard
        self.places = 1 if guard is None else len(guard)
        self.deeds = bit_deeds_by_product(one)
        self.moves = [{shadow: [cast_by_counting(program, shadow, deed, guard) for deed in self.deeds]
                       for shadow in all_shadows(program, self.places)} for program in (one, other)]
        self.like = self.like_pairs()

    def agree(self, shadow, its, among):
        """Whether no deed tells the two apart at once or leads out of these pairs."""
        for move, answering in zip(self.moves[0][shadow], self.moves[1][its]):
            if "NotLet" in (move, answering):
                if move != answering:
                    return False
            elif move[0] != answering[0] or (among is not None and (move[1], answering[1]) not in among):
                return False
        return True

    def like_pairs(self):
        pairs = {(shadow, its) for shadow in self.moves[0] for its in self.moves[1] if self.agree(shadow, its, None)}
        while True:
            kept = {(shadow, its) for shadow, its in pairs if self.agree(shadow, its, pairs)}
            if kept == pairs:
                return pairs
            pairs = kept

    def parts(self, shadow, its, row):
        """Whether the row parts the two by its last deed, and not sooner."""
        for at, deed in enumerate(row):
            number = self.deeds.index(deed)
            move, answering = self.moves[0][shadow][number], self.moves[1][its][number]
            last = at == len(row) - 1
            if "NotLet" in (move, answering):
                return last and move != answering
            if move[0] != answering[0]:
                return last
            shadow, its = move[1], answering[1]
        return False

    def first_parting(self, shadow, its, most):
        """The first row, of at most so many deeds, that parts the two."""
        for many in range(1, most + 1):
            for row in itertools.product(self.deeds, repeat=many):
                if self.parts(shadow, its, row):
                    return row
        return None

    def led_to(self, pair):
        """All pairs to which bit deeds lead from this one, rising."""
        found, left = {pair}, [pair]
        while left:
            shadow, its = left.pop()
            for move, answering in zip(self.moves[0][shadow], self.moves[1][its]):
                if move != "NotLet" and (move[1], answering[1]) not in found:
                    found.add((move[1], answering[1]))
                    left.append((move[1], answering[1]))
        return tuple(sorted(found))

    def least_like(self, shadow):
        """The least shadow of the other that is like this one of the one."""
        return min(its for its in self.moves[1] if (shadow, its) in self.like)

    def is_table(self, thing):
        """Whether it is a table, by the document's words."""
        if type(thing) is not tuple:
            return False
        for pair in thing:
            if type(pair) is not tuple or len(pair) != 2:
                return False
            if not (judged_shadow(self.one, pair[0], self.places) and judged_shadow(self.other, pair[1], self.places)):
                return False
        return list(thing) == sorted(set(thing)) and all(self.agree(shadow, its, set(thing)) for shadow, its in thing)


def end_of(program, history, guard=None):
    """(place, mode, held) behind the history, by the document's words."""
    place = 0
    for called, *numbers in history:
        place = 0 if guard is None else guard[place][[deed[0] for deed in program[1]].index(called)]
    rows = worked(program, history)
    answer, mode, held = rows[-1] if rows else (None, 0, ((),) * len(program[0]))
    return place, mode, held


def shadow_at(end, bar):
    """The shadow of (place, mode, held) under the bar; of None above all notes."""
    place, mode, held = end
    return (place, mode, tuple(int(bar is not None and note != () and note >= bar) for note in held))


def stair_by_words(plain, history):
    """The stair behind the history, gap by gap; of a plain going through of the program with itself."""
    end = end_of(plain.one, history, plain.guard)
    notes = sorted(notes_of(history))
    shadows, kept = [], []
    for bar in notes + [None]:
        shadow = plain.least_like(shadow_at(end, bar))
        if shadows and shadows[-1] == shadow:
            kept.pop()
        else:
            shadows.append(shadow)
        kept.append(bar)
    return tuple(shadows), tuple(kept[:-1])


def rows_behind(plain, row):
    """The shadows behind each deed that all shadows of the row let, wherever its numbers lie among the notes."""
    notes = [(10 * at, 0, 0) for at in range(len(row) - 1)]
    spots = [number + off for number in range(-10, 10 * len(notes), 10) for off in (2, 4, 6)]
    found = set()
    for called, many in plain.one[1]:
        for numbers in itertools.product(spots, repeat=many):
            came = [(number, 1, place) for place, number in enumerate(numbers)]
            moves = []
            for bar in sorted(notes + came) + [(10 ** 9, 0, 0)]:
                deed = (called,) + tuple(int(note >= bar) for note in came)
                shadow = row[sum(note < bar for note in notes)]
                moves.append(plain.moves[0][shadow][plain.deeds.index(deed)])
            if "NotLet" not in moves:
                shadows = [plain.least_like(shadow) for answer, shadow in moves]
                found.add(tuple(shadow for shadow, copies in itertools.groupby(shadows)))
    return found


def shut_by_words(plain, rows):
    """These rows of shadows, and all to which deeds lead from them."""
    found, left = set(rows), list(rows)
    while left:
        fresh = rows_behind(plain, left.pop()) - found
        found |= fresh
        left += fresh
    return found


def low_and_high(notes):
    """The two numbers of goings on: below all these notes, and above them all."""
    numbers = [number for number, at, place in notes]
    return (min(numbers) - 1, max(numbers) + 1) if numbers else (0, 1)


def goings_on(program, place, many, numbers, guard=None):
    """All goings on of so many deeds by these rising numbers that the guard lets from the place, rising."""
    deeds = sorted((called,) + row for called, brings in program[1]
                   for row in itertools.product(numbers, repeat=brings))
    order = [called for called, brings in program[1]]
    rows = [((), place)]
    for step in range(many):
        rows = [(row + (deed,), 0 if guard is None else guard[behind][order.index(deed[0])])
                for row, behind in rows for deed in deeds
                if guard is None or guard[behind][order.index(deed[0])] is not None]
    return [row for row, behind in rows]


def first_going_on(program, place, most, numbers, fits, guard=None):
    """The first going on, of at most so many deeds, that fits."""
    for many in range(1, most + 1):
        for row in goings_on(program, place, many, numbers, guard):
            if fits(row):
                return row
    return None
