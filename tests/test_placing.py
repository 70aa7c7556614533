import inspect
import itertools
import random
import unittest

from stilltold.errors import NoPair
from stilltold.placing import goes_on, in_place
from stilltold.runs import Run
from stilltold.stairs import first_stair, stair_of, stepped
from tests.helper import (ANYTHING, ECHO, GREATEST, HUGE, JUDGED, LAST, MIDDLE, NOTHING, OLD, ONCE, ORDER, PAIR,
                          PATIENT, SECONDS, TURNS, TWINS, Judges, Plain, any_deeds, any_guard, any_history,
                          any_program, bare_program, end_of, goings_on, kept_as_is, low_and_high, nearly, other_deeds,
                          same_telling, shadow_at, turned_about, whole, with_idle_cell, with_modes_twice)

NUMBERS = (-HUGE, -2, -1, 0, 1, 1, 1, 2, HUGE)
# Does no more than tell the second greatest as long as nothing is pushed; it has one cell.
HALF = (("lo",), SECONDS[1],
        (((0, (None,), None), (0, (None,), ("cell", "lo")), (0, (("none",),), None)),))


class Place(Judges, unittest.TestCase):
    def right(self, plain, stair, moment):
        """Whether from the moment, one by its form, the other is like the stair under the bars of each gap."""
        end = (stair[0][-1][0],) + moment
        return all((shadow, shadow_at(end, bar)) in plain.like for shadow, bar in zip(stair[0], stair[1] + (None,)))

    def judged(self, plain, stair, thing):
        """Of anything, whether it is a moment that goes on."""
        if type(thing) is not tuple or len(thing) != 2:
            return False
        mode, held = thing
        if not whole(mode) or mode not in range(len(plain.other[2])):
            return False
        if type(held) is not tuple or len(held) != len(plain.other[0]):
            return False
        for part in held:
            note = type(part) is tuple and len(part) == 3 and all(whole(number) for number in part)
            if not (type(part) is tuple and part == ()) and not (note and part in stair[1]):
                return False
        return self.right(plain, stair, thing)

    def moments(self, plain, stair):
        """All moments of the other, rising."""
        rows = itertools.product(((),) + stair[1], repeat=len(plain.other[0]))
        return list(itertools.product(range(len(plain.other[2])), rows))

    def follow(self, plain, history, looks=None):
        """in_place and goes_on behind the history, against a plain going through of all moments."""
        stair = stair_of(plain.one, history, guard=plain.guard)
        moments = self.moments(plain, stair)
        self.assertEqual(moments, sorted(moments))
        fit = [moment for moment in moments if self.right(plain, stair, moment)]
        told = in_place(plain.one, stair, plain.other, guard=plain.guard)
        self.assertEqual(told, fit[0] if fit else None)
        looked = moments if looks is None else looks.sample(moments, min(12, len(moments))) + fit[:3]
        for moment in looked:
            self.assertIs(goes_on(plain.one, stair, plain.other, moment, guard=plain.guard), moment in fit)
        self.answer(plain, stair, fit[:2] + fit[-1:], len(history))
        return told

    def answer(self, plain, stair, moments, at):
        """That Runs from these moments answer short goings on that are let from here as the stair does."""
        numbers = sorted({number for number, when, where in stair[1]})[:1] + [low_and_high(stair[1])[1]]
        for moment in moments:
            for going in goings_on(plain.one, stair[0][-1][0], 2, numbers, plain.guard):
                run, now = Run(plain.other, mode=moment[0], held=moment[1], at=at), stair
                for step, deed in enumerate(going):
                    answer, now = stepped(plain.one, now, at + step, deed, guard=plain.guard)
                    self.assertEqual(run.do(deed), answer)


class ByHand(Place):
    def test_itself(self):
        stair = stair_of(SECONDS, (("push", 5), ("push", 3)))
        self.assertEqual(in_place(SECONDS, stair, SECONDS), (0, ((5, 0, 0), (3, 1, 0))))
        self.assertEqual(in_place(SECONDS, first_stair(SECONDS), SECONDS), (0, ((), ())))
        self.yes(goes_on, SECONDS, stair, SECONDS, (0, ((5, 0, 0), (3, 1, 0))))
        self.no(goes_on, SECONDS, stair, SECONDS, (0, ((3, 1, 0), (5, 0, 0))))
        self.no(goes_on, SECONDS, stair, SECONDS, (0, ((5, 0, 0), ())))
        self.no(goes_on, SECONDS, stair, SECONDS, (0, ((5, 0, 0), (5, 0, 0))))

    def test_cells_in_another_order(self):
        stair = stair_of(SECONDS, (("push", 5), ("push", 3)))
        self.assertEqual(in_place(SECONDS, stair, turned_about(SECONDS)), (0, ((3, 1, 0), (5, 0, 0))))

    def test_an_idle_cell_holds_none(self):
        stair = stair_of(SECONDS, (("push", 5), ("push", 3)))
        other = with_idle_cell(SECONDS)
        self.assertEqual(in_place(SECONDS, stair, other), (0, ((), (5, 0, 0), (3, 1, 0))))
        for idle in ((), (5, 0, 0), (3, 1, 0)):
            self.yes(goes_on, SECONDS, stair, other, (0, (idle, (5, 0, 0), (3, 1, 0))))
        self.no(goes_on, SECONDS, stair, other, (0, ((4, 1, 0), (5, 0, 0), (3, 1, 0))))

    def test_the_lesser_notes_first(self):
        # Which of both cells holds the greater one makes no difference to what it tells.
        cells = (("cell", "a"), ("cell", "b"))
        level = (("a", "b"), SECONDS[1],
                 (((0, (("greatest", cells + (("came", 0),)), ("kth", 2, cells + (("came", 0),))), None),
                   (0, (None, None), ("least", cells)), (0, (("none",), ("none",)), None)),))
        stair = stair_of(SECONDS, (("push", 5), ("push", 3)))
        self.assertEqual(in_place(SECONDS, stair, level), (0, ((3, 1, 0), (5, 0, 0))))
        self.assertEqual(in_place(SECONDS, stair_of(SECONDS, (("push", 5),)), level), (0, ((), (5, 0, 0))))
        plain = Plain(SECONDS, level)
        for history in itertools.product([("push", 1), ("push", 2), ("ask",), ("clear",)], repeat=3):
            self.assertIsNotNone(self.follow(plain, history))

    def test_another_mode(self):
        stair = stair_of(GREATEST, (("top", 5),))
        other = with_modes_twice(GREATEST)
        self.assertEqual(in_place(GREATEST, stair, other), (0, ((5, 0, 0),)))
        self.yes(goes_on, GREATEST, stair, other, (1, ((5, 0, 0),)))
        self.no(goes_on, GREATEST, stair, other, (2, ((5, 0, 0),)))
        self.assertEqual(in_place(PATIENT, stair_of(PATIENT, (("go", 5), ("go", 6))), PATIENT), (2, ((5, 0, 0),)))

    def test_fewer_cells(self):
        stair = stair_of(SECONDS, (("push", 5), ("push", 3)))
        self.assertIsNone(in_place(SECONDS, stair, HALF))
        self.assertIsNone(in_place(SECONDS, first_stair(SECONDS), HALF))
        # Where nothing is pushed any more one cell is enough.
        ask = ((0, 1, None), (None, 1, None))
        history = (("push", 5), ("push", 3), ("ask",))
        stair = stair_of(SECONDS, history, guard=ask)
        self.assertEqual(in_place(SECONDS, stair, HALF, guard=ask), (0, ((3, 1, 0),)))
        self.assertIsNone(in_place(SECONDS, stair_of(SECONDS, history), HALF))

    def test_another_one(self):
        stair = stair_of(GREATEST, (("top", 5),))
        self.assertIsNone(in_place(GREATEST, stair, LAST))
        self.assertIsNone(in_place(GREATEST, stair, OLD))
        self.assertIsNone(in_place(LAST, stair_of(LAST, (("top", 5),)), GREATEST))
        # Behind the last number that is let all three tell the same.
        for program, other in itertools.product((GREATEST, LAST, OLD), repeat=2):
            stair = stair_of(program, (("top", 5),), guard=ONCE)
            told = in_place(program, stair, other, guard=ONCE)
            self.assertEqual(told, (1 if other == OLD else 0, ((5, 0, 0),)))

    def test_what_is_let_from_here(self):
        # The stair's last shadow has place 1: there push isn't let, and HALF goes on.
        ask = ((0, 1, None), (None, 1, None))
        for history, told in (((("push", 5), ("push", 3)), None), ((("push", 5), ("push", 3), ("ask",)), True)):
            stair = stair_of(SECONDS, history, guard=ask)
            self.assertIs(goes_on(SECONDS, stair, HALF, (0, ((3, 1, 0),)), guard=ask), told is True)

    def test_nothing_is_told_for_ever(self):
        quiet = bare_program(("a", "b"), NOTHING[1], 3)
        self.assertEqual(in_place(NOTHING, first_stair(NOTHING), quiet), (0, ((), ())))
        self.yes(goes_on, NOTHING, first_stair(NOTHING), quiet, (2, ((), ())))
        loud = ((), NOTHING[1], (((0, (), ("none",)),),))
        self.assertIsNone(in_place(NOTHING, first_stair(NOTHING), loud))
        self.no(goes_on, NOTHING, first_stair(NOTHING), loud, (0, ()))

    def test_no_cells(self):
        self.assertEqual(in_place(ECHO, first_stair(ECHO), ECHO), (0, ()))
        self.assertEqual(in_place(ECHO, stair_of(ECHO, (("say", 1, 2),)), ECHO), (1, ()))

    def test_as_many_notes_as_there_are_cells(self):
        cells = tuple("abcdef")
        shift = (("came", 0),) + tuple(("cell", cell) for cell in cells[:-1])
        program = (cells, (("x", 1),), tuple((((mode + 1) & 3, shift, ("cell", "f")),) for mode in range(4)))
        history = tuple(("x", number) for number in (5, 3, 9, 1, 7, 5))
        stair = stair_of(program, history)
        held = end_of(program, history)[2]
        self.assertEqual(len(stair[1]), 6)
        self.assertEqual(in_place(program, stair, program), (0, held))
        self.assertEqual(in_place(program, stair, turned_about(program)), (0, held[::-1]))
        self.yes(goes_on, program, stair, program, (3, held))
        self.no(goes_on, program, stair, program, (3, held[::-1]))


class Moments(Place):
    def test_of_programs(self):
        chance = random.Random(121)
        for program in JUDGED:
            for other in same_telling(program):
                plain = Plain(program, other)
                for many in range(5):
                    history = any_history(chance, program, many, numbers=NUMBERS)
                    self.assertIsNotNone(self.follow(plain, history, chance))

    def test_of_other_programs(self):
        chance = random.Random(122)
        for one, other in list(itertools.permutations((GREATEST, LAST, OLD), 2)) + [(SECONDS, HALF), (HALF, SECONDS)]:
            for guard in (None, ((0, 1, 1)[:len(one[1])], (None, 1, 1)[:len(one[1])])):
                plain = Plain(one, other, guard)
                for many in range(5):
                    self.follow(plain, any_history(chance, one, many, guard))

    def test_all_short_histories(self):
        plain = Plain(SECONDS, turned_about(SECONDS))
        for history in itertools.product([("push", 1), ("push", 2), ("ask",), ("clear",)], repeat=3):
            self.follow(plain, history)

    def test_with_guards(self):
        chance = random.Random(123)
        for program, guard in ((PAIR, ((0, 1, 1), (None, 0, 1))), (PAIR, ORDER), (SECONDS, TURNS), (SECONDS, TWINS),
                               (MIDDLE, ((1, None), (2, 0), (None, 0)))):
            for other in same_telling(program):
                plain = Plain(program, other, guard)
                for many in range(2 if guard == ORDER else 5):
                    history = any_history(chance, program, many, guard, numbers=NUMBERS)
                    self.assertIsNotNone(self.follow(plain, history, chance))

    def test_by_chance(self):
        chance = random.Random(124)
        found = []
        for turn in range(150):
            deeds = any_deeds(chance, 2)
            one = any_program(chance, deeds, 2)
            other = chance.choice((with_modes_twice(one), turned_about(one), any_program(chance, deeds, 3)))
            guard = chance.choice((None, any_guard(chance, deeds)))
            history = any_history(chance, one, chance.randint(0, 4), guard)
            found.append(self.follow(Plain(one, other, guard), history, chance))
        self.assertGreater(found.count(None), 10)
        self.assertGreater(len(found) - found.count(None), 50)


class GoesOnOfAnything(Place):
    CASES = ((SECONDS, (("push", 1), ("push", 0)), SECONDS, None), (GREATEST, (("top", 1),), GREATEST, None),
             (GREATEST, (("top", 1),), with_modes_twice(GREATEST), None), (GREATEST, (("top", 1),), LAST, None),
             (SECONDS, (("push", 1), ("push", 0)), turned_about(SECONDS), TURNS), (ECHO, (), ECHO, None),
             (GREATEST, (("top", 1),), with_idle_cell(GREATEST), None), (GREATEST, (), GREATEST, None),
             (SECONDS, (("push", 1), ("push", 0), ("ask",)), HALF, ((0, 1, None), (None, 1, None))))

    def look(self, plain, stair, thing):
        right = self.judged(plain, stair, thing)
        self.assertIs(goes_on(plain.one, stair, plain.other, thing, guard=plain.guard), right, thing)

    def test_of_anything(self):
        for one, history, other, guard in self.CASES:
            plain, stair = Plain(one, other, guard), stair_of(one, history, guard=guard)
            told = in_place(one, stair, other, guard=guard) or (0, ())
            for thing in ANYTHING:
                for wrapped in (thing, (thing,), (0, thing), (thing, told[1]), (told[0], thing), (0, (thing,)),
                                (0, (thing, thing)), told + (thing,), (thing,) + told, (0, told[1] + (thing,))):
                    self.look(plain, stair, wrapped)

    def test_nearly_moments(self):
        for one, history, other, guard in self.CASES:
            plain, stair = Plain(one, other, guard), stair_of(one, history, guard=guard)
            for moment in self.moments(plain, stair):
                for thing in nearly(moment):
                    self.look(plain, stair, thing)

    def test_modes_beyond(self):
        stair = stair_of(GREATEST, (("top", 1),))
        for mode in (-1, 0, 1, 2, 3, HUGE, -HUGE, True, False, None, "0"):
            self.assertIs(goes_on(GREATEST, stair, with_modes_twice(GREATEST), (mode, ((1, 0, 0),))),
                          whole(mode) and mode in (0, 1))

    def test_held_of_another_length(self):
        stair = stair_of(GREATEST, (("top", 1),))
        for many in range(5):
            self.assertIs(goes_on(GREATEST, stair, GREATEST, (0, ((1, 0, 0),) * many)), many == 1)

    def test_notes_that_are_not_the_stairs(self):
        stair = stair_of(GREATEST, (("top", 0), ("top", 1)))
        for note in ((0, 0, 0), (1, 0, 0), (1, 1, 1), (2, 1, 0), (True, 1, 0), (1, True, 0), (1, 1, False), [1, 1, 0],
                     (1, 1), None, "", [], ((1, 1, 0),), (), ((),), {}, 0):
            self.no(goes_on, GREATEST, stair, GREATEST, (0, (note,)))
        # The idle cell may hold anything of the stair, but nothing else.
        for note in ((0, 0, 0), (1, 1, 1), (True, 1, 0), [1, 1, 0], None, [], {}):
            self.no(goes_on, GREATEST, stair, with_idle_cell(GREATEST), (0, (note, (1, 1, 0))))
        self.yes(goes_on, GREATEST, stair, with_idle_cell(GREATEST), (0, ((1, 1, 0), (1, 1, 0))))

    def test_lists(self):
        stair = stair_of(GREATEST, (("top", 1),))
        for thing in ([0, ((1, 0, 0),)], (0, [(1, 0, 0)]), (0, ([1, 0, 0],)), (0, None), None, []):
            self.no(goes_on, GREATEST, stair, GREATEST, thing)


class NoPairs(unittest.TestCase):
    def test_ahead_of_all(self):
        for one, other in other_deeds():
            self.assertRaises(NoPair, in_place, one, first_stair(one), other)
            self.assertRaises(NoPair, goes_on, one, first_stair(one), other, (0, ((),)))
            for thing in ANYTHING:
                self.assertRaises(NoPair, goes_on, one, first_stair(one), other, thing)
                self.assertRaises(NoPair, goes_on, one, thing, other, thing, guard=thing)
                self.assertRaises(NoPair, in_place, one, thing, other, guard=thing)


class Handed(unittest.TestCase):
    def test_names(self):
        for function, names in ((goes_on, ["program", "stair", "other", "thing", "guard"]),
                                (in_place, ["program", "stair", "other", "guard"])):
            self.assertEqual(list(inspect.signature(function).parameters), names)
            self.assertEqual(inspect.signature(function).parameters["guard"].kind, inspect.Parameter.KEYWORD_ONLY)
            self.assertIsNone(inspect.signature(function).parameters["guard"].default)

    def test_by_names_and_asked_again(self):
        stair = stair_of(SECONDS, (("push", 5), ("push", 3)), guard=TURNS)
        other = turned_about(SECONDS)
        told = kept_as_is(self, in_place, SECONDS, stair, other, guard=TURNS)
        # The greatest one can't be told any more, and so needs no cell.
        self.assertEqual(told, (0, ((3, 1, 0), ())))
        self.assertEqual(in_place(guard=TURNS, other=other, stair=stair, program=SECONDS), told)
        self.assertIs(kept_as_is(self, goes_on, SECONDS, stair, other, told, guard=TURNS), True)
        self.assertIs(goes_on(guard=TURNS, thing=told, other=other, stair=stair, program=SECONDS), True)
        self.assertIs(kept_as_is(self, goes_on, SECONDS, stair, other, [[0], {}], guard=TURNS), False)


if __name__ == "__main__":
    unittest.main()
