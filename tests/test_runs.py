import copy
import random
import unittest

from stilltold.errors import NoDeed
from stilltold.runs import Run, is_history, told
from tests.helper import (ANYTHING, ECHO, GREATEST, HUGE, MIDDLE, NOTHING, ORDER, PAIR, PROGRAMS, Judges,
                          any_guard, any_history, any_program, kept_as_is, nearly, whole, worked)

NO_DEEDS = (("put", 1), ("put",), ("put", 1, 2, 3), ("turn", 1), ("turn", None), ("one",), ("one", 1, 1), ("two", 1),
            ("Put", 1, 2), ("", 1), (), ("put", 1, True), ("put", False, 1), ("one", True), ("one", "1"), ("one", None),
            ("one", (1,)), ("one", [1]), ("one", {}), ["one", 1], ["turn"], "turn", "one", ("turn", ()), (("turn",),),
            ("a",), ("cell", "a"), (1, "one"), (True,), (None,), (["turn"],), ({},), {"turn": 0}, [("turn",)],
            (("one", 1), ("turn",)))


def judged_deed(program, thing):
    return (type(thing) is tuple and thing != () and type(thing[0]) is str and all(whole(part) for part in thing[1:])
            and (thing[0], len(thing) - 1) in program[1])


def judged_history(program, thing, guard):
    if type(thing) is not tuple or not all(judged_deed(program, deed) for deed in thing):
        return False
    place = 0
    for deed in thing:
        if guard is not None:
            place = guard[place][[called for called, many in program[1]].index(deed[0])]
            if place is None:
                return False
    return True


class IsHistory(Judges, unittest.TestCase):
    def test_histories(self):
        for program in PROGRAMS:
            self.yes(is_history, program, ())
        self.yes(is_history, PAIR, (("put", 1, 2),))
        self.yes(is_history, PAIR, (("one", -HUGE), ("turn",), ("put", HUGE, 0), ("put", 0, 0)))
        self.yes(is_history, NOTHING, (("ask",),) * 300)

    def test_what_is_no_deed(self):
        for deed in NO_DEEDS:
            self.no(is_history, PAIR, (deed,))
            self.no(is_history, PAIR, (("turn",), deed))
            self.no(is_history, PAIR, (deed, ("turn",)))
            self.no(is_history, PAIR, (deed,), guard=((0, 0, 0),))

    def test_what_is_no_tuple(self):
        for thing in ([], [("turn",)], {}, None, "", "turn", 0, True, {("turn",): 1}):
            self.no(is_history, PAIR, thing)
            self.no(is_history, PAIR, thing, guard=ORDER)
        self.no(is_history, PAIR, ("turn",))
        self.no(is_history, PAIR, (["turn"],))

    def test_guard(self):
        put, turn, one = ("put", 1, 2), ("turn",), ("one", 5)
        for history in ((), (put,), (put, turn), (put, turn, turn, turn), (put, one), (put, turn, one)):
            self.yes(is_history, PAIR, history, guard=ORDER)
        for history in ((turn,), (one,), (put, put), (put, turn, put), (put, one, one), (put, one, turn), (turn, put)):
            self.no(is_history, PAIR, history, guard=ORDER)
            self.yes(is_history, PAIR, history)
            self.yes(is_history, PAIR, history, guard=None)
            self.yes(is_history, PAIR, history, guard=((0, 0, 0),))
        self.no(is_history, PAIR, (put, one, ("two",)), guard=ORDER)
        self.no(is_history, PAIR, (put, ("turn", 1)), guard=ORDER)
        self.yes(is_history, PAIR, (), guard=((None, None, None),))
        self.no(is_history, PAIR, (turn,), guard=((None, None, None),))

    def test_place_0_behind_a_deed_is_a_place(self):
        guard = ((1, None, None), (None, 0, None))
        self.yes(is_history, PAIR, (("put", 1, 2), ("turn",)) * 3, guard=guard)
        self.no(is_history, PAIR, (("put", 1, 2), ("turn",), ("turn",)), guard=guard)

    def test_by_chance(self):
        chance = random.Random(8)
        for turn in range(150):
            program = any_program(chance)
            guard = any_guard(chance, program[1])
            history = any_history(chance, program, 6, guard)
            self.yes(is_history, program, history)
            self.yes(is_history, program, history, guard=guard)
            other = any_history(chance, program, 4)
            self.assertIs(is_history(program, other, guard=guard), judged_history(program, other, guard))

    def test_of_anything(self):
        history = (("put", 1, 2), ("turn",), ("one", 5))
        for thing in ANYTHING:
            for other in (thing, (thing,), history + (thing,), (thing,) + history,
                          (("put", 1, thing),), (("one", thing),)):
                for guard in (None, ORDER):
                    self.assertIs(is_history(PAIR, other, guard=guard), judged_history(PAIR, other, guard), other)
        for other in nearly(history):
            for guard in (None, ORDER):
                self.assertIs(is_history(PAIR, other, guard=guard), judged_history(PAIR, other, guard), other)

    def test_by_names_and_asked_again(self):
        self.yes(is_history, program=PAIR, thing=(("put", 1, 2),), guard=ORDER)
        self.no(is_history, thing=(("turn",),), guard=ORDER, program=PAIR)
        self.assertRaises(TypeError, is_history, PAIR, (), None)
        self.assertIs(kept_as_is(self, is_history, PAIR, [["put", 1, {}]], guard=ORDER), False)
        self.assertIs(kept_as_is(self, is_history, PAIR, (("put", 1, 1),), guard=ORDER), True)


class Runs(unittest.TestCase):
    def state(self, run):
        return run.mode(), run.held(), run.at(), len(run)

    def test_fresh(self):
        self.assertEqual(self.state(Run(PAIR)), (0, ((), ()), 0, 0))
        self.assertEqual(self.state(Run(NOTHING)), (0, (), 0, 0))
        self.assertEqual(self.state(Run(PAIR, mode=0, held=None, at=0)), (0, ((), ()), 0, 0))

    def test_handed_in(self):
        held = ((), (7, 3, 1))
        self.assertEqual(self.state(Run(PAIR, mode=1)), (1, ((), ()), 0, 0))
        self.assertEqual(self.state(Run(PAIR, at=9)), (0, ((), ()), 9, 0))
        run = Run(PAIR, mode=1, held=held, at=9)
        self.assertEqual(self.state(run), (1, held, 9, 1))
        self.assertEqual(run.do(("turn",)), ())
        self.assertEqual(self.state(run), (0, ((7, 3, 1), ()), 10, 1))
        self.assertEqual(run.do(("put", 4, 4)), (4, 10, 1))
        self.assertEqual(self.state(run), (0, ((4, 10, 0), (4, 10, 1)), 11, 2))
        self.assertEqual(held, ((), (7, 3, 1)))

    def test_answers_and_what_is_behind_each_deed(self):
        run = Run(PAIR)
        for deed, answer, state in (
                (("put", 9, 2), (9, 0, 0), (0, ((9, 0, 0), (2, 0, 1)), 1, 2)),
                (("turn",), None, (1, ((2, 0, 1), (9, 0, 0)), 2, 2)),
                (("put", 5, 9), None, (1, ((5, 2, 0), (9, 0, 0)), 3, 2)),
                (("turn",), (5, 2, 0), (0, ((9, 0, 0), (5, 2, 0)), 4, 2)),
                (("one", 7), (), (0, ((7, 4, 0), (5, 2, 0)), 5, 2)),
                (("one", 7), (), (0, ((7, 4, 0), (5, 2, 0)), 6, 2)),
                (("turn",), None, (1, ((5, 2, 0), (7, 4, 0)), 7, 2)),
                (("one", 6), (5, 2, 0), (0, ((5, 2, 0), ()), 8, 1)),
                (("turn",), None, (1, ((), (5, 2, 0)), 9, 1)),
                (("one", 6), (), (0, ((), ()), 10, 0))):
            self.assertEqual(run.do(deed), answer)
            self.assertEqual(self.state(run), state)

    def test_of_the_cells_as_they_were(self):
        run = Run(MIDDLE)
        answers = [run.do(("push", number)) for number in (4, 8, 6, 1)]
        self.assertEqual(answers, [(), (), (), (4, 0, 0)])
        self.assertEqual(run.held(), ((1, 3, 0), (6, 2, 0), (8, 1, 0)))
        self.assertEqual(run.do(("ask",)), (6, 2, 0))
        self.assertEqual(run.held(), ((1, 3, 0), (6, 2, 0), (8, 1, 0)))

    def test_equal_numbers_the_later_above(self):
        run = Run(GREATEST)
        for number in (5, 5, 3, 5, 5):
            self.assertIsNone(run.do(("top", number)))
        self.assertEqual(run.do(("ask",)), (5, 4, 0))
        self.assertEqual(Run(PAIR).do(("put", 5, 5)), (5, 0, 1))

    def test_numbers_of_no_cells(self):
        run = Run(ECHO)
        self.assertEqual([run.do(("say", HUGE, -HUGE)) for step in range(3)],
                         [(HUGE, 0, 0), (-HUGE, 1, 1), (HUGE, 2, 0)])
        self.assertEqual(self.state(run), (1, (), 3, 0))

    def test_nothing_none_and_notes_are_told_apart(self):
        self.assertIsNone(Run(NOTHING).do(("ask",)))
        self.assertEqual(Run(GREATEST).do(("ask",)), ())
        self.assertEqual(Run(GREATEST, held=((0, 0, 0),), at=1).do(("ask",)), (0, 0, 0))

    def test_no_deed(self):
        for begun in (Run(PAIR), Run(PAIR, mode=1, held=((1, 2, 0), ()), at=5)):
            before = begun.copy()
            state = self.state(begun)
            for deed in NO_DEEDS + ANYTHING:
                with self.assertRaises(NoDeed) as caught:
                    begun.do(deed)
                self.assertIs(caught.exception.deed, deed)
                self.assertEqual(self.state(begun), state)
                self.assertTrue(begun == before)

    def test_no_deed_leaves_what_is_handed_in(self):
        deed = ["put", [1], {"a": 2}]
        with self.assertRaises(NoDeed):
            Run(PAIR).do(deed)
        self.assertEqual(deed, ["put", [1], {"a": 2}])

    def test_copy(self):
        run = Run(PAIR, mode=1, held=((4, 1, 0), (3, 2, 1)), at=7)
        other = run.copy()
        self.assertIsInstance(other, Run)
        self.assertIsNot(other, run)
        self.assertTrue(other == run)
        self.assertEqual(self.state(other), self.state(run))
        other.do(("turn",))
        self.assertFalse(other == run)
        self.assertEqual(self.state(run), (1, ((4, 1, 0), (3, 2, 1)), 7, 2))
        run.do(("turn",))
        self.assertTrue(other == run)
        self.assertEqual(self.state(other), (0, ((3, 2, 1), (4, 1, 0)), 8, 2))

    def test_equal(self):
        held = ((4, 1, 0), (3, 2, 1))
        run = Run(PAIR, mode=1, held=held, at=7)
        again = Run(copy.deepcopy(PAIR), mode=1, held=((4, 1, 0), (3, 2, 1)), at=7)
        self.assertIs(run == again, True)
        self.assertIs(run != again, False)
        self.assertIs(run == run, True)
        other = (PAIR[0], PAIR[1], PAIR[2][::-1])
        for unlike in (Run(other, mode=1, held=held, at=7), Run(PAIR, mode=0, held=held, at=7),
                       Run(PAIR, mode=1, held=held[::-1], at=7), Run(PAIR, mode=1, held=((4, 1, 0), ()), at=7),
                       Run(PAIR, mode=1, held=held, at=8), Run(PAIR), Run(NOTHING)):
            self.assertIs(run == unlike, False)
            self.assertIs(unlike == run, False)
            self.assertIs(run != unlike, True)
        self.assertIs(Run(PAIR) == Run(PAIR, held=((), ())), True)

    def test_equal_with_nothing_else(self):
        for run in (Run(PAIR), Run(NOTHING), Run(PAIR, mode=1, held=((4, 1, 0), ()), at=7)):
            for thing in ANYTHING + ((PAIR, 0, ((), ()), 0), PAIR, ((), ()), run.held(), len(run), object(), Run):
                self.assertIs(run == thing, False)
                self.assertIs(run != thing, True)

    def test_asked_again(self):
        run = Run(PAIR, held=((4, 1, 0), ()), at=7)
        self.assertEqual(self.state(run), self.state(run))
        self.assertTrue(run == run.copy())

    def test_by_names(self):
        run = Run(program=PAIR, at=7, held=((4, 1, 0), ()), mode=1)
        self.assertEqual(run.do(deed=("turn",)), (4, 1, 0))
        self.assertRaises(TypeError, Run, PAIR, 0)
        self.assertRaises(TypeError, Run)

    def test_methods_stand_in_the_class(self):
        for method in ("__init__", "do", "mode", "held", "at", "copy", "__eq__", "__len__"):
            self.assertIn(method, vars(Run))

    def test_by_chance(self):
        chance = random.Random(9)
        for turn in range(200):
            program = any_program(chance)
            history = any_history(chance, program, 12)
            run = Run(program)
            for at, (deed, (answer, mode, held)) in enumerate(zip(history, worked(program, history))):
                self.assertEqual(run.do(deed), answer)
                self.assertEqual(self.state(run), (mode, held, at + 1, sum(note != () for note in held)))

    def test_begun_anywhere_goes_on_alike(self):
        chance = random.Random(10)
        for turn in range(60):
            program = any_program(chance)
            history = any_history(chance, program, 10)
            run = Run(program)
            for at, deed in enumerate(history):
                later = Run(program, mode=run.mode(), held=run.held(), at=run.at())
                self.assertTrue(later == run)
                answers = [row[0] for row in worked(program, history)]
                self.assertEqual([later.do(deed) for deed in history[at:]], answers[at:])
                run.do(deed)


class Told(unittest.TestCase):
    def test_histories(self):
        self.assertEqual(told(PAIR, ()), ())
        self.assertEqual(told(PAIR, (("put", 9, 2), ("turn",), ("turn",), ("one", 5))),
                         ((9, 0, 0), None, (2, 0, 1), ()))
        self.assertEqual(told(GREATEST, (("ask",), ("top", 3), ("ask",), ("top", 3), ("ask",))),
                         ((), None, (3, 1, 0), None, (3, 3, 0)))

    def test_always_fresh(self):
        history = (("top", 3), ("ask",))
        self.assertEqual(kept_as_is(self, told, GREATEST, history), (None, (3, 0, 0)))
        self.assertIs(type(told(GREATEST, history)), tuple)

    def test_by_chance(self):
        chance = random.Random(11)
        for turn in range(100):
            program = any_program(chance)
            history = any_history(chance, program, 15)
            self.assertEqual(told(program, history), tuple(row[0] for row in worked(program, history)))

    def test_long(self):
        history = tuple(("top", number % 7) for number in range(299)) + (("ask",),)
        self.assertEqual(told(GREATEST, history)[-1], (6, 293, 0))

    def refused(self, history, deed):
        with self.assertRaises(NoDeed) as caught:
            told(PAIR, history)
        self.assertIs(caught.exception.deed, deed)

    def test_what_is_no_tuple(self):
        for thing in ANYTHING:
            if not isinstance(thing, tuple):
                self.refused(thing, thing)
        history = [("turn",)]
        self.refused(history, history)
        self.assertEqual(history, [("turn",)])

    def test_the_first_that_is_no_deed(self):
        for deed in NO_DEEDS + ANYTHING:
            self.refused((deed,), deed)
            self.refused((("turn",), ("put", 1, 2), deed, ["last"], None), deed)
        history = ("turn",)
        self.refused(history, history[0])

    def test_by_names(self):
        self.assertEqual(told(history=(("turn",),), program=PAIR), (None,))


if __name__ == "__main__":
    unittest.main()
