import inspect
import random
import unittest

from stilltold.choices import is_choice
from stilltold.guards import free
from stilltold.programs import is_program
from stilltold.reading import read_guard, read_history, read_program
from stilltold.showing import show_answer, show_guard, show_history, show_program, show_stair
from stilltold.stairs import first_stair, stair_of
from tests.helper import (BOTH_ENDS, ECHO, FIRST, GREATEST, HUGE, JUDGED, LAST, NOTHING, ORDER, PAIR, SECONDS, TURNS,
                          TWINS, any_deeds, any_guard, any_history, any_program, best, falling_out, kept_as_is,
                          same_telling)

SEVENTY = int("7" * 70)


def one_tell(choice, cells=("a", "b"), many=2):
    """A program that tells this choice."""
    return (cells, (("x", many),), (((0, (None,) * len(cells), choice),),))


class Programs(unittest.TestCase):
    def test_greatest(self):
        self.assertEqual(show_program(GREATEST), "\n".join((
            "cells top", "deed top 1", "deed ask 0", "mode", "on top 0", "set top greatest(top,came0)", "on ask 0",
            "tell top")))

    def test_pair(self):
        self.assertEqual(show_program(PAIR), "\n".join((
            "cells a b", "deed put 2", "deed turn 0", "deed one 1",
            "mode", "on put 0", "set a came0", "set b came1", "tell greatest(came0,came1)",
            "on turn 1", "set a b", "set b a", "on one 0", "set a least(a,came0)", "tell none",
            "mode", "on put 1", "set a least(came0,came1)", "set b least(b,came1)",
            "on turn 0", "set a b", "set b a", "tell a", "on one 0", "set b none", "tell kth(3;a,came0,b)")))

    def test_no_cells(self):
        self.assertEqual(show_program(NOTHING), "cells\ndeed ask 0\nmode\non ask 0")
        self.assertEqual(show_program(ECHO), "\n".join((
            "cells", "deed say 2", "mode", "on say 1", "tell came0", "mode", "on say 0", "tell came1")))

    def test_each_choice(self):
        for choice, text in ((("none",), "none"), (("cell", "a"), "a"), (("cell", "b"), "b"), (("came", 0), "came0"),
                             (("came", 1), "came1"), (("kth", 1, (("none",),)), "kth(1;none)"),
                             (("kth", 2, (("cell", "a"), FIRST, ("cell", "a"))), "kth(2;a,came0,a)"),
                             (("greatest", (("cell", "a"),)), "greatest(a)"), (("least", (FIRST,)), "least(came0)"),
                             (("least", (("greatest", (FIRST, ("kth", 1, (("cell", "b"),)))), ("none",))),
                              "least(greatest(came0,kth(1;b)),none)")):
            self.assertEqual(show_program(one_tell(choice)),
                             "cells a b\ndeed x 2\nmode\non x 0\ntell " + text)
            self.assertEqual(read_program(show_program(one_tell(choice))), one_tell(choice))

    def test_names_like_words_of_rows(self):
        program = (("set", "on", "tell"), (("mode", 1), ("deed", 0), ("cells", 0), ("let", 0)),
                   (((0, (("cell", "on"), None, FIRST), ("cell", "tell")),) + ((0, (None,) * 3, None),) * 3,))
        self.assertEqual(show_program(program), "\n".join((
            "cells set on tell", "deed mode 1", "deed deed 0", "deed cells 0", "deed let 0", "mode",
            "on mode 0", "set set on", "set tell came0", "tell tell", "on deed 0", "on cells 0", "on let 0")))
        self.assertEqual(read_program(show_program(program)), program)

    def test_read_as_it_was(self):
        chance = random.Random(241)
        programs = [other for program in JUDGED + (LAST, BOTH_ENDS, best(5), falling_out(6))
                    for other in same_telling(program) if is_program(other)]
        programs += [any_program(chance) for turn in range(150)]
        for program in programs:
            text = show_program(program)
            self.assertIs(type(text), str)
            self.assertEqual(repr(read_program(text)), repr(program))
            self.assertEqual(show_program(read_program(text)), text)

    def test_the_greatest_choices(self):
        wide = ("kth", 5, (("greatest", (("cell", "a"),) * 5),) * 4 + (("least", (FIRST,) * 5),))
        deep = FIRST
        for step in range(7):
            deep = ("kth", 1, (deep,))
        for choice in (wide, deep):
            self.assertTrue(is_choice(("a", "b"), 2, choice))
            self.assertEqual(read_program(show_program(one_tell(choice))), one_tell(choice))


class Guards(unittest.TestCase):
    def test_by_hand(self):
        self.assertEqual(show_guard(PAIR[1], ORDER), "place\nlet put 1\nplace\nlet turn 1\nlet one 2\nplace")
        self.assertEqual(show_guard(SECONDS[1], TURNS),
                         "place\nlet push 1\nplace\nlet push 2\nplace\nlet ask 2\nlet clear 0")
        self.assertEqual(show_guard(GREATEST[1], free(GREATEST[1])), "place\nlet top 0\nlet ask 0")
        self.assertEqual(show_guard(GREATEST[1], ((None, None),)), "place")

    def test_read_as_it_was(self):
        chance = random.Random(242)
        guards = [(PAIR[1], ORDER), (SECONDS[1], TURNS), (SECONDS[1], TWINS), (NOTHING[1], ((None,),) * 4)]
        for turn in range(150):
            deeds = any_deeds(chance)
            guards.append((deeds, any_guard(chance, deeds)))
        for deeds, guard in guards:
            text = show_guard(deeds, guard)
            self.assertIs(type(text), str)
            self.assertEqual(repr(read_guard(deeds, text)), repr(guard))


class Histories(unittest.TestCase):
    def test_by_hand(self):
        for history, text in (((), "-"), ((("push", 5), ("ask",)), "push 5, ask"), ((("ask",),), "ask"),
                              ((("put", -1, 0), ("put", 7, -HUGE)), "put -1 0, put 7 -" + "9" * 60),
                              ((("one", SEVENTY),), "one " + "7" * 70), ((("one", -SEVENTY),), "one -" + "7" * 70)):
            self.assertEqual(show_history(history), text)

    def test_read_as_it_was(self):
        chance = random.Random(243)
        for turn in range(150):
            program = any_program(chance)
            numbers = (-SEVENTY, -HUGE, -10, -1, 0, 1, 5, 10, HUGE, SEVENTY)
            history = any_history(chance, program, turn % 12, numbers=numbers)
            text = show_history(history)
            self.assertIs(type(text), str)
            self.assertEqual(repr(read_history(program[1], text)), repr(history))


class AnswersAndStairs(unittest.TestCase):
    def test_answers(self):
        for answer, text in ((None, "-"), ((), "none"), ((5, 0, 0), "5@0.0"), ((-5, 12, 1), "-5@12.1"),
                             ((0, 300, 0), "0@300.0"), ((-HUGE, 1, 1), "-" + "9" * 60 + "@1.1")):
            self.assertEqual(show_answer(answer), text)

    def test_stairs(self):
        for stair, text in ((first_stair(GREATEST), "0.0.0"), (first_stair(NOTHING), "0.0.-"),
                            ((((0, 0, (1, 1)), (0, 0, (0, 0))), ((5, 0, 0),)), "0.0.11 5@0.0 0.0.00"),
                            (first_stair(falling_out(6)), "0.0.000000"),
                            ((((3, 5, (1,)), (2, 4, (0,)), (3, 5, (0,))), ((-7, 2, 1), (8, 14, 0))),
                             "3.5.1 -7@2.1 2.4.0 8@14.0 3.5.0"),
                            (stair_of(PAIR, (("put", 4, 4),)), "0.0.11 4@0.0 0.0.01 4@0.1 0.0.00"),
                            (stair_of(ECHO, (("say", 1, 2),)), "0.1.-")):
            self.assertEqual(show_stair(stair), text)


class Handed(unittest.TestCase):
    def test_names(self):
        for function, names in ((show_program, ["program"]), (show_guard, ["deeds", "guard"]),
                                (show_history, ["history"]), (show_answer, ["answer"]), (show_stair, ["stair"])):
            self.assertEqual(list(inspect.signature(function).parameters), names)
        self.assertEqual(show_program(program=NOTHING), show_program(NOTHING))
        self.assertEqual(show_guard(guard=ORDER, deeds=PAIR[1]), show_guard(PAIR[1], ORDER))
        self.assertEqual(show_history(history=(("ask",),)), "ask")
        self.assertEqual(show_answer(answer=None), "-")
        self.assertEqual(show_stair(stair=first_stair(NOTHING)), "0.0.-")

    def test_nothing_handed_in_is_changed(self):
        kept_as_is(self, show_program, PAIR)
        kept_as_is(self, show_guard, PAIR[1], ORDER)
        kept_as_is(self, show_history, (("put", 1, 2),))
        kept_as_is(self, show_stair, stair_of(PAIR, (("put", 1, 2),)))


if __name__ == "__main__":
    unittest.main()
