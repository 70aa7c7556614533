import random
import unittest

from stilltold.programs import is_program
from tests.helper import (ANYTHING, FIRST, GREATEST, HUGE, MIDDLE, NOTHING, PAIR, PROGRAMS, Judges, Wrong, any_program,
                          bare_program, judged_choice, kept_as_is, name, nearly, need, nested, whole)

ASK = (("ask", 0),)


def judge_rule(cells, many, modes, rule):
    need(type(rule) is tuple and len(rule) == 3)
    after, becomes, tells = rule
    need(whole(after) and after in range(modes))
    need(type(becomes) is tuple and len(becomes) == len(cells))
    for choice in becomes + (tells,):
        need(choice is None or judged_choice(cells, many, choice))


def judge_program(thing):
    need(type(thing) is tuple and len(thing) == 3)
    cells, deeds, modes = thing
    need(type(cells) is tuple and len(cells) <= 6)
    for cell in cells:
        need(name(cell) and cells.count(cell) == 1)
    need(type(deeds) is tuple and 1 <= len(deeds) <= 4)
    for deed in deeds:
        need(type(deed) is tuple and len(deed) == 2 and name(deed[0]) and whole(deed[1]) and deed[1] in (0, 1, 2))
    need(len({deed[0] for deed in deeds}) == len(deeds))
    need(type(modes) is tuple and 1 <= len(modes) <= 6)
    for mode in modes:
        need(type(mode) is tuple and len(mode) == len(deeds))
        for (called, many), rule in zip(deeds, mode):
            judge_rule(cells, many, len(modes), rule)


def judged_program(thing):
    try:
        judge_program(thing)
    except Wrong:
        return False
    return True


def one_rule(cells, many, rule, modes=1):
    """A program of one deed with this rule in its first mode."""
    others = ((0, (None,) * len(cells), None),)
    return (cells, (("ask", many),), ((rule,),) + (others,) * (modes - 1))


class IsProgram(Judges, unittest.TestCase):
    def test_programs(self):
        for program in PROGRAMS:
            self.yes(is_program, program)
        chance = random.Random(6)
        for turn in range(100):
            self.yes(is_program, any_program(chance))

    def test_how_many_cells(self):
        for many in range(9):
            self.assertIs(is_program(bare_program(tuple("abcdefgh"[:many]), ASK, 1)), many <= 6, many)

    def test_how_many_deeds(self):
        for many in range(7):
            deeds = tuple((called, 0) for called in "uvwxyz"[:many])
            self.assertIs(is_program(bare_program(("a",), deeds, 2)), 1 <= many <= 4, many)

    def test_how_many_modes(self):
        for many in range(9):
            self.assertIs(is_program(bare_program(("a",), ASK, many)), 1 <= many <= 6, many)

    def test_the_largest(self):
        deeds = (("none" + "s", 0), ("two", 2), ("one", 1), ("abcdefgh", 2))
        full = bare_program(tuple("abcdef"), deeds, 6)
        self.yes(is_program, full)
        self.no(is_program, bare_program(tuple("abcdefg"), deeds, 6))
        self.no(is_program, bare_program(tuple("abcdef"), deeds + (("e", 0),), 6))
        self.no(is_program, bare_program(tuple("abcdef"), deeds, 7))

    def test_how_many_numbers(self):
        for many in (-1, 0, 1, 2, 3, HUGE):
            self.assertIs(is_program(bare_program((), (("ask", many),), 1)), many in (0, 1, 2), many)
        for many in (True, False, None, "1", (1,), [1], ()):
            self.no(is_program, bare_program((), (("ask", many),), 1))

    def test_names_alike(self):
        self.no(is_program, bare_program(("a", "a"), ASK, 1))
        self.no(is_program, bare_program(("a", "b", "c", "b"), ASK, 1))
        self.no(is_program, bare_program((), (("a", 0), ("a", 0)), 1))
        self.no(is_program, bare_program((), (("a", 0), ("b", 0), ("a", 1)), 1))
        self.yes(is_program, bare_program(("a", "b"), (("b", 0), ("a", 1)), 1))
        self.yes(is_program, GREATEST)

    def test_names(self):
        for good in ("a", "z", "abcdefgh", "nones", "kths", "set", "mode"):
            self.yes(is_program, bare_program((good,), ASK, 1))
            self.yes(is_program, bare_program((), ((good, 1),), 1))
        for bad in ("none", "cell", "came", "kth", "greatest", "least", "", "abcdefghi", "A", "a1", "a ", "a_",
                    "\u00e9", None, 0, True, ("a",), ["a"], {}, ()):
            self.no(is_program, bare_program((bad,), ASK, 1))
            self.no(is_program, bare_program(("b", bad), ASK, 1))
            self.no(is_program, bare_program((), ((bad, 1),), 1))
            self.no(is_program, bare_program((), (("b", 0), (bad, 1)), 1))

    def test_rules_as_many_as_deeds(self):
        rule = (0, (), None)
        deeds = (("a", 0), ("b", 0))
        for many in range(5):
            self.assertIs(is_program(((), deeds, ((rule,) * many,))), many == 2)
            self.assertIs(is_program(((), deeds, ((rule,) * 2, (rule,) * many))), many == 2)

    def test_after(self):
        for modes in (1, 2, 6):
            for after in (-1, 0, 1, 2, 5, 6, 7, HUGE):
                self.assertIs(is_program(one_rule((), 0, (after, (), None), modes)), 0 <= after < modes, (modes, after))
            for after in (True, False, None, "0", (0,), [0], ()):
                self.no(is_program, one_rule((), 0, (after, (), None), modes))

    def test_becomes_as_many_as_cells(self):
        for cells in ((), ("a",), ("a", "b"), tuple("abcdef")):
            for many in range(8):
                self.assertIs(is_program(one_rule(cells, 0, (0, (None,) * many, None))), many == len(cells))
                self.assertIs(is_program(one_rule(cells, 0, (0, (("none",),) * many, None))), many == len(cells))
        for becomes in (None, [None], "a", 1, {}, {"a": None}):
            self.no(is_program, one_rule(("a",), 0, (0, becomes, None)))

    def test_choices_of_the_cells_and_the_numbers(self):
        for many, choice, fits in ((0, ("cell", "a"), True), (0, ("cell", "c"), False), (0, ("cell", "ask"), False),
                                   (0, FIRST, False), (1, FIRST, True), (1, ("came", 1), False), (2, ("came", 1), True),
                                   (2, ("came", 2), False), (2, ("came", True), False), (1, ("none",), True),
                                   (1, "none", False), (1, (), False), (1, ["none"], False), (1, 0, False),
                                   (1, False, False), (2, ("least", (("cell", "b"), FIRST)), True),
                                   (2, ("least", (("cell", "b"), ("greatest", (("cell", "c"),)))), False)):
            self.assertIs(is_program(one_rule(("a", "b"), many, (0, (choice, None), None))), fits, choice)
            self.assertIs(is_program(one_rule(("a", "b"), many, (0, (None, choice), None))), fits, choice)
            self.assertIs(is_program(one_rule(("a", "b"), many, (0, (None, None), choice))), fits, choice)

    def test_numbers_of_the_very_deed(self):
        def program(first, second):
            return ((), (("a", 1), ("b", 2)), (((0, (), first), (0, (), second)),))
        self.yes(is_program, program(FIRST, ("came", 1)))
        self.no(is_program, program(("came", 1), ("came", 1)))
        self.yes(is_program, program(None, None))

    def test_choices_neither_too_large_nor_too_deep(self):
        for depth in (7, 8, 9):
            choice = nested(depth - 1, lambda thing: ("kth", 1, (thing or ("none",),)))
            self.assertIs(is_program(one_rule((), 0, (0, (), choice))), depth <= 8)
        for extra in (1, 2, 3):
            six = ("least", (("none",),) * 5)
            rows = ("greatest", (("least", (six,) * 5), ("least", (six,) * 4 + (("least", (("none",),) * extra),))))
            self.assertIs(is_program(one_rule((), 0, (0, (), rows))), 58 + extra <= 60)

    def test_lists_in_the_places_of_tuples(self):
        cells, deeds, modes = MIDDLE
        after, becomes, tells = modes[0][1]
        self.no(is_program, [cells, deeds, modes])
        self.no(is_program, (list(cells), deeds, modes))
        self.no(is_program, (cells, list(deeds), modes))
        self.no(is_program, (cells, (list(deeds[0]), deeds[1]), modes))
        self.no(is_program, (cells, deeds, list(modes)))
        self.no(is_program, (cells, deeds, (list(modes[0]),)))
        self.no(is_program, (cells, deeds, ((modes[0][0], [after, becomes, tells]),)))
        self.no(is_program, (cells, deeds, ((modes[0][0], (after, list(becomes), tells)),)))
        self.no(is_program, (cells, deeds, ((modes[0][0], (after, becomes, list(tells))),)))
        self.no(is_program, ([], deeds, bare_program((), deeds, 1)[2]))

    def test_the_last_mode_and_rule_count_too(self):
        cells, deeds, modes = PAIR
        for bad in ((2, (None, None), None), (0, (None,), None), (0, (None, None), ("came", 1)), None, ()):
            self.no(is_program, (cells, deeds, (modes[0], modes[1][:2] + (bad,))))
            self.no(is_program, (cells, deeds, (modes[0][:2] + (bad,), modes[1])))

    def test_nearly_programs(self):
        for program in (GREATEST, NOTHING, PAIR, MIDDLE, bare_program(("a", "b"), (("a", 1), ("b", 2)), 3)):
            for thing in nearly(program):
                self.assertIs(is_program(thing), judged_program(thing), thing)

    def test_none_in_each_place(self):
        def everywhere(thing):
            yield None
            if isinstance(thing, tuple):
                for at, part in enumerate(thing):
                    for other in everywhere(part):
                        yield thing[:at] + (other,) + thing[at + 1:]
        for program in PROGRAMS:
            for thing in everywhere(program):
                self.assertIs(is_program(thing), judged_program(thing), thing)
            self.no(is_program, (None,) + program[1:])
            self.no(is_program, (program[0], None, program[2]))
            self.no(is_program, program[:2] + (None,))

    def test_of_anything(self):
        for thing in ANYTHING:
            self.assertIs(is_program(thing), judged_program(thing), thing)
            for program in ((thing,) + GREATEST[1:], (GREATEST[0], thing, GREATEST[2]), GREATEST[:2] + (thing,),
                            (thing, thing, thing), GREATEST[:2] + ((thing,),), GREATEST[:2] + (((thing, thing),),)):
                self.assertIs(is_program(program), judged_program(program), program)

    def test_by_name_and_asked_again(self):
        self.yes(is_program, thing=PAIR)
        self.assertIs(kept_as_is(self, is_program, [list(part) for part in PAIR]), False)
        self.assertIs(kept_as_is(self, is_program, PAIR), True)


if __name__ == "__main__":
    unittest.main()
