import inspect
import random
import unittest

from stilltold.aparts import alike
from stilltold.errors import NoFit
from stilltold.joining import joined
from stilltold.programs import is_program
from stilltold.runs import Run, told
from tests.helper import (BOTH_ENDS, FIRST, GREATEST, HUGE, LAST, MIDDLE, NOTHING, PAIR, SECONDS, any_deeds,
                          any_history, any_program, bare_program, best, choice_of_size, chosen_by_counting,
                          falling_out, kept_as_is, measured, renamed)

# Tells nothing of what it is handed until it is asked; then the greatest.
HANDED = (("top",), (("take", 1), ("ask", 0)),
          (((0, (("greatest", (("cell", "top"), FIRST)),), None), (0, (None,), ("cell", "top"))),))
# Tells what it is handed, in two modes by turns the greater and the lesser of it and what it holds.
TURNING = (("was",), (("see", 1), ("turn", 0)),
           (((1, (FIRST,), ("greatest", (("cell", "was"), FIRST))), (1, (None,), None)),
            ((0, (FIRST,), ("least", (("cell", "was"), FIRST))), (1, (("none",),), ("none",)))))


class Second:
    """A program that is handed notes, told by the document's words."""

    def __init__(self, program):
        self.program = program
        self.mode = 0
        self.held = {cell: () for cell in program[0]}

    def do(self, name, handed):
        names = [called for called, many in self.program[1]]
        after, becomes, tells = self.program[2][self.mode][names.index(name)]
        answer = None if tells is None else chosen_by_counting(tells, self.held, handed)
        self.held = {cell: self.held[cell] if choice is None else chosen_by_counting(choice, self.held, handed)
                     for cell, choice in zip(self.program[0], becomes)}
        self.mode = after
        return answer


class Joined(unittest.TestCase):
    def follow(self, first, second, links, histories):
        """The joined program, deed by deed beside the first and the second."""
        program = joined(first, second, links)
        self.assertIs(is_program(program), True)
        self.assertEqual(program[0], tuple("abcdef"[:len(first[0]) + len(second[0])]))
        self.assertEqual(program[1], first[1])
        self.assertEqual(len(program[2]), len(first[2]) * len(second[2]))
        names = [name for name, many in first[1]]
        for history in histories:
            run, one, two = Run(program), Run(first), Second(second)
            for deed in history:
                answer, link = one.do(deed), links[names.index(deed[0])]
                handed = (answer or (),)
                self.assertEqual(run.do(deed), None if link is None else two.do(link, handed))
                self.assertEqual(run.mode(), one.mode() * len(second[2]) + two.mode)
                self.assertEqual(run.held(), one.held() + tuple(two.held[cell] for cell in second[0]))
        return program

    def any_links(self, chance, first, second):
        fit = [name for name, many in second[1] if many < 2] + [None]
        return tuple(chance.choice(fit) for deed in first[1])

    def beyond(self, first, second, links):
        """Whether the joined program is more than a program may be, by the document's words."""
        if len(first[0]) + len(second[0]) > 6 or len(first[2]) * len(second[2]) > 6:
            return True
        names = [name for name, many in second[1]]
        for number, link in enumerate(links):
            for told_so in [mode[number][2] or ("none",) for mode in first[2] if link is not None]:
                for mode in second[2]:
                    after, becomes, tells = mode[names.index(link)]
                    for choice in (*becomes, tells):
                        size, depth = (0, 0) if choice is None else self.sizes(choice, told_so)
                        if size > 60 or depth > 8:
                            return True
        return False

    def sizes(self, choice, told_so):
        """Size and depth of the choice with what was told put in."""
        if choice == FIRST and told_so is not None:
            return self.sizes(told_so, None)
        if choice[0] not in ("kth", "greatest", "least"):
            return 1, 1
        inner = [self.sizes(part, told_so) for part in choice[-1]]
        return 1 + sum(size for size, depth in inner), 1 + max(depth for size, depth in inner)

    def refused(self, *given):
        with self.assertRaises(NoFit) as caught:
            joined(*given)
        self.assertIs(type(caught.exception), NoFit)


class ByHand(Joined):
    def test_the_greatest_of_what_falls_out(self):
        held = (FIRST, ("cell", "a"), ("greatest", (("cell", "c"), ("cell", "b"))))
        self.assertEqual(joined(falling_out(2), HANDED, ("take",)),
                         (("a", "b", "c"), (("push", 1),), (((0, held, None),),)))

    def test_all_kinds_of_links(self):
        first = (("x",), (("push", 1), ("ask", 0), ("look", 0), ("set", 2)),
                 (((1, (FIRST,), None), (0, (None,), ("cell", "x")),
                   (0, (None,), ("cell", "x")), (1, (None,), ("came", 1))),
                  ((0, (None,), FIRST), (1, (None,), None),
                   (1, (("none",),), ("cell", "x")), (1, (FIRST,), ("none",)))))
        program = joined(first, TURNING, ("see", None, "turn", "see"))
        was = ("cell", "b")
        self.assertEqual(program, (("a", "b"), first[1], (
            # f 0, s 0
            ((3, (FIRST, ("none",)), ("greatest", (was, ("none",)))), (0, (None, None), None),
             (1, (None, None), None), (3, (None, ("came", 1)), ("greatest", (was, ("came", 1))))),
            # f 0, s 1
            ((2, (FIRST, ("none",)), ("least", (was, ("none",)))), (1, (None, None), None),
             (1, (None, ("none",)), ("none",)), (2, (None, ("came", 1)), ("least", (was, ("came", 1))))),
            # f 1, s 0
            ((1, (None, FIRST), ("greatest", (was, FIRST))), (2, (None, None), None),
             (3, (("none",), None), None), (3, (FIRST, ("none",)), ("greatest", (was, ("none",))))),
            # f 1, s 1
            ((0, (None, FIRST), ("least", (was, FIRST))), (3, (None, None), None),
             (3, (("none",), ("none",)), ("none",)), (2, (FIRST, ("none",)), ("least", (was, ("none",))))))))

    def test_nothing_linked(self):
        program = joined(SECONDS, TURNING, (None, None, None))
        self.assertEqual(told(program, (("push", 5), ("push", 4), ("ask",), ("clear",))), (None,) * 4)

    def test_no_cells_at_all(self):
        self.assertEqual(joined(NOTHING, NOTHING, ("ask",)), NOTHING)
        echo = ((), (("say", 1),), (((0, (), FIRST),),))
        self.assertEqual(joined(echo, echo, ("say",)), echo)

    def test_cells_called_alike(self):
        program = joined(GREATEST, LAST, ("top", None))
        self.assertEqual(program[0], ("a", "b"))
        # GREATEST tells nothing at its deed top, so that LAST is handed none.
        self.assertEqual(program[2][0][0], (0, (("greatest", (("cell", "a"), FIRST)), ("none",)), None))

    def test_the_note_as_itself(self):
        program = joined(falling_out(2), HANDED, ("take",))
        asked = (program[0], program[1] + (("ask", 0),), (program[2][0] + ((0, (None,) * 3, ("cell", "c")),),))
        history = (("push", 5), ("push", 5), ("push", 5), ("push", 1), ("ask",), ("push", 0), ("ask",))
        self.assertEqual(told(asked, history)[4::2], ((5, 1, 0), (5, 2, 0)))

    def test_behind_deeds_of_no_number_all_goes_on(self):
        counting = ((), (("tick", 0),), (((1, (), None),), ((2, (), None),), ((0, (), ("none",)),)))
        program = joined(GREATEST, counting, (None, "tick"))
        history = (("ask",), ("top", 1), ("ask",), ("ask",), ("ask",))
        self.assertEqual(told(program, history), (None, None, None, (), None))


class BesideRuns(Joined):
    def test_of_programs(self):
        chance = random.Random(231)
        for first, second, links in ((falling_out(2), HANDED, ("take",)), (SECONDS, TURNING, ("see", "see", "turn")),
                                     (SECONDS, HANDED, (None, "take", "ask")), (MIDDLE, SECONDS, ("push", "ask")),
                                     (MIDDLE, best(3), ("push", None)), (PAIR, TURNING, ("see", "turn", "see")),
                                     (BOTH_ENDS, TURNING, ("turn", "see", None)), (GREATEST, MIDDLE, ("ask", "push"))):
            histories = [any_history(chance, first, 20, numbers=(-HUGE, -1, 0, 0, 1, 1, HUGE)) for times in range(5)]
            self.follow(first, second, links, histories)

    def test_of_programs_by_chance(self):
        chance = random.Random(232)
        many = {True: 0, False: 0}
        for turn in range(300):
            first = any_program(chance, any_deeds(chance), 3)
            second = any_program(chance, any_deeds(chance), 4)
            links = self.any_links(chance, first, second)
            beyond = self.beyond(first, second, links)
            many[beyond] += 1
            if beyond:
                self.refused(first, second, links)
            else:
                self.follow(first, second, links, [any_history(chance, first, 10) for times in range(2)])
        self.assertGreater(min(many.values()), 40)

    def test_three_programs_behind_one_another(self):
        chance = random.Random(233)
        for first, second, third in ((falling_out(2), falling_out(2), falling_out(2)), (GREATEST, HANDED, TURNING),
                                     (falling_out(1), TURNING, HANDED)):
            two = self.follow(first, second, (second[1][0][0],) * len(first[1]),
                              [any_history(chance, first, 12) for times in range(4)])
            left = self.follow(two, third, (third[1][0][0],) * len(first[1]),
                               [any_history(chance, first, 12) for times in range(4)])
            right = joined(first, joined(second, third, (third[1][0][0],) * len(second[1])),
                           (second[1][0][0],) * len(first[1]))
            self.assertIsNone(alike(left, right))

    def test_rows_of_windows(self):
        # What falls out of one window comes into the next: as if it were one.
        three = joined(joined(falling_out(2), falling_out(2), ("push",)), falling_out(2), ("push",))
        self.assertEqual(three, falling_out(6))


class NoFits(Joined):
    def test_cells(self):
        deeds = (("x", 1),)
        for many in range(7):
            cells = tuple("uvwxyz"[:many])
            for other in range(7):
                given = (bare_program(cells, deeds, 1), bare_program(tuple("abcdef"[:other]), deeds, 1), ("x",))
                if many + other > 6:
                    self.refused(*given)
                else:
                    self.follow(*given, [(("x", 1),)])

    def test_modes(self):
        deeds = (("x", 1),)
        for many in range(1, 7):
            for other in range(1, 7):
                given = (bare_program((), deeds, many), bare_program(("a",), deeds, other), ("x",))
                if many * other > 6:
                    self.refused(*given)
                else:
                    self.follow(*given, [(("x", 1),)])

    def deep(self, depth, leaf):
        for step in range(depth - 1):
            leaf = ("least", (leaf,))
        return leaf

    def with_tells(self, tells):
        return ((), (("x", 1),), (((0, (), tells),),))

    def test_size(self):
        for size, inner in ((60, 1), (1, 60), (31, 30), (30, 31), (2, 59)):
            for more in (-1, 0, 1):
                if 0 < size + more <= 60:
                    second, first = choice_of_size(size + more, FIRST), choice_of_size(inner, FIRST)
                    self.assertEqual(measured((), 1, second)[0], size + more)
                    given = (self.with_tells(first), self.with_tells(second), ("x",))
                    if size + more + inner - 1 > 60:
                        self.refused(*given)
                    else:
                        self.follow(*given, [(("x", 5), ("x", 4))])

    def test_depth(self):
        for depth in range(1, 9):
            for inner in range(1, 9):
                given = (self.with_tells(self.deep(inner, FIRST)), self.with_tells(self.deep(depth, FIRST)), ("x",))
                if depth + inner - 1 > 8:
                    self.refused(*given)
                else:
                    self.follow(*given, [(("x", 5), ("x", 4))])

    def test_what_a_cell_becomes(self):
        second = (("a", "b"), (("x", 1),), (((0, (None, self.deep(5, FIRST)), None),),))
        self.refused(self.with_tells(self.deep(5, FIRST)), second, ("x",))
        self.follow(self.with_tells(self.deep(4, FIRST)), second, ("x",), [(("x", 5),)])

    def test_what_is_not_linked_or_not_put_in_fits(self):
        deep = self.deep(8, FIRST)
        self.follow(self.with_tells(deep), self.with_tells(deep), (None,), [(("x", 5),)])
        self.follow(self.with_tells(deep), self.with_tells(self.deep(8, ("none",))), ("x",), [(("x", 5),)])
        self.follow(self.with_tells(None), self.with_tells(deep), ("x",), [(("x", 5),)])
        # A mode that is never come to counts like the others.
        never = ((), (("x", 1),), (((0, (), FIRST),), ((0, (), deep),)))
        self.refused(never, self.with_tells(self.deep(2, FIRST)), ("x",))
        self.refused(self.with_tells(self.deep(2, FIRST)), never, ("x",))

    def test_sizes_that_multiply(self):
        five = ("greatest", (FIRST,) * 5)
        self.refused(self.with_tells(choice_of_size(60, FIRST)), self.with_tells(five), ("x",))
        self.refused(self.with_tells(five), self.with_tells(("greatest", (("least", (FIRST,) * 5),) * 5)), ("x",))
        self.follow(self.with_tells(five), self.with_tells(five), ("x",), [(("x", 5), ("x", 4))])


class Handed(unittest.TestCase):
    def test_names(self):
        parameters = inspect.signature(joined).parameters
        self.assertEqual(list(parameters), ["first", "second", "links"])
        self.assertEqual(joined(links=("take",), second=HANDED, first=falling_out(2)),
                         joined(falling_out(2), HANDED, ("take",)))

    def test_nothing_handed_in_is_changed(self):
        kept_as_is(self, joined, SECONDS, TURNING, ("see", None, "turn"))
        hash(joined(SECONDS, TURNING, ("see", None, "turn")))

    def test_other_names(self):
        names = {"top": "b"}
        self.assertEqual(joined(falling_out(1), HANDED, ("take",))[2][0][0][1][1],
                         ("greatest", (renamed(("cell", "top"), names), ("cell", "a"))))


if __name__ == "__main__":
    unittest.main()
