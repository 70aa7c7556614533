import inspect
import itertools
import random
import unittest

from stilltold.errors import NoDeed, NotLet
from stilltold.runs import Run, told
from stilltold.stairs import first_stair, stair_of, stepped
from tests.helper import (ANYTHING, ECHO, GREATEST, HUGE, JUDGED, MIDDLE, NOTHING, ORDER, PAIR, PATIENT, SECONDS, TURNS,
                          TWINS, Plain, any_deeds, any_guard, any_history, any_program, end_of, kept_as_is,
                          notes_of, same_telling, shadow_at, stair_by_words, with_idle_cell, with_modes_twice)

NUMBERS = (-HUGE, -2, -1, 0, 1, 1, 1, 2, HUGE)
NO_DEEDS = (("push",), ("push", 1, 2), ("push", True), ("push", None), ("push", "1"), ("push", (1,)), ("push", [1]),
            ("pull", 1), ("ask", 0), ("Push", 1), ["push", 1], ["ask"], "ask", ("push", 1, ()), (("ask",),), ([],),
            ({},))


class Stairs(unittest.TestCase):
    def follow(self, plain, history):
        """The stairs behind all beginnings of a history, by their words, by stair_of and step by step."""
        program, guard = plain.one, plain.guard
        run, stair = Run(program), first_stair(program, guard=guard)
        self.assertEqual(stair, stair_by_words(plain, ()))
        for at, deed in enumerate(history):
            answer, stair = stepped(program, stair, at, deed, guard=guard)
            self.assertEqual(answer, run.do(deed))
            self.assertEqual(stair, stair_by_words(plain, history[:at + 1]))
            self.assertEqual(stair_of(program, history[:at + 1], guard=guard), stair)
            self.assertLessEqual(len(stair[1]), len(program[0]))
        return stair


class ByHand(unittest.TestCase):
    def test_first_stair(self):
        self.assertEqual(first_stair(GREATEST), (((0, 0, (0,)),), ()))
        self.assertEqual(first_stair(NOTHING), (((0, 0, ()),), ()))
        self.assertEqual(first_stair(MIDDLE), (((0, 0, (0, 0, 0)),), ()))
        self.assertEqual(first_stair(PAIR, guard=ORDER), (((0, 0, (0, 0)),), ()))

    def test_first_stair_is_that_behind_nothing(self):
        for program, guard in [(program, None) for program in JUDGED] + [(PAIR, ORDER), (GREATEST, ((1, 1), (0, 0)))]:
            self.assertEqual(first_stair(program, guard=guard), stair_of(program, (), guard=guard))
            self.assertEqual(first_stair(program, guard=guard), stair_by_words(Plain(program, program, guard), ()))

    def test_greatest(self):
        self.assertEqual(stair_of(GREATEST, ()), (((0, 0, (0,)),), ()))
        self.assertEqual(stair_of(GREATEST, (("top", 5),)), (((0, 0, (1,)), (0, 0, (0,))), ((5, 0, 0),)))
        self.assertEqual(stair_of(GREATEST, (("top", 5), ("top", 3))), (((0, 0, (1,)), (0, 0, (0,))), ((5, 0, 0),)))
        self.assertEqual(stair_of(GREATEST, (("top", 5), ("ask",), ("top", 5))),
                         (((0, 0, (1,)), (0, 0, (0,))), ((5, 2, 0),)))

    def test_middle(self):
        self.assertEqual(stair_of(MIDDLE, (("push", 5), ("push", -1), ("push", 5), ("push", 2))),
                         (((0, 0, (1, 1, 1)), (0, 0, (1, 1, 0)), (0, 0, (0, 1, 0)), (0, 0, (0, 0, 0))),
                          ((-1, 1, 0), (2, 3, 0), (5, 2, 0))))

    def test_seconds(self):
        # Of the greatest ones the second alone can still be told, and the greatest only behind a greater one.
        self.assertEqual(stair_of(SECONDS, (("push", 5), ("push", 3))),
                         (((0, 0, (1, 1)), (0, 0, (1, 0)), (0, 0, (0, 0))), ((3, 1, 0), (5, 0, 0))))
        self.assertEqual(stair_of(SECONDS, (("push", 5), ("push", 3), ("clear",))), (((0, 0, (0, 0)),), ()))

    def test_what_is_held_but_never_told(self):
        self.assertEqual(stair_of(PATIENT, (("go", 5),)), (((0, 1, (1,)), (0, 1, (0,))), ((5, 0, 0),)))
        idle = with_idle_cell(GREATEST)
        self.assertEqual(stair_of(idle, (("top", 5), ("top", 3))), (((0, 0, (0, 1)), (0, 0, (0, 0))), ((5, 0, 0),)))

    def test_another_mode_is_put(self):
        self.assertEqual(stair_of(with_modes_twice(GREATEST), (("top", 5),)),
                         (((0, 0, (1,)), (0, 0, (0,))), ((5, 0, 0),)))

    def test_another_place_is_put(self):
        self.assertEqual(stair_of(SECONDS, (("push", 5),), guard=TWINS), (((1, 0, (0, 0)),), ()))
        self.assertEqual(stair_of(SECONDS, (("push", 5), ("push", 3)), guard=TURNS),
                         (((2, 0, (0, 1)), (2, 0, (0, 0))), ((3, 1, 0),)))

    def test_unlike_places_and_modes_in_one_stair(self):
        # Where the cell is 1 mode 1 tells otherwise than mode 0, where it is 0 both tell 0 for ever.
        program = (("a",), (("put", 1), ("ask", 0)),
                   (((1, (("came", 0),), None), (0, (("none",),), ("none",))),
                    ((1, (None,), None), (1, (None,), ("cell", "a")))))
        guard = ((1, None), (None, 1))
        self.assertEqual(stair_of(program, (("put", 7),), guard=guard),
                         (((1, 1, (1,)), (1, 0, (0,))), ((7, 0, 0),)))

    def test_two_numbers_in_one_deed(self):
        self.assertEqual(stair_of(PAIR, (("put", 4, 4),)),
                         (((0, 0, (1, 1)), (0, 0, (0, 1)), (0, 0, (0, 0))), ((4, 0, 0), (4, 0, 1))))
        self.assertEqual(stair_of(PAIR, (("put", 5, 4),)),
                         (((0, 0, (1, 1)), (0, 0, (1, 0)), (0, 0, (0, 0))), ((4, 0, 1), (5, 0, 0))))

    def test_stepped(self):
        stair = (((0, 0, (1,)), (0, 0, (0,))), ((5, 0, 0),))
        self.assertEqual(stepped(GREATEST, stair, 1, ("ask",)), ((5, 0, 0), stair))
        self.assertEqual(stepped(GREATEST, stair, 9, ("top", 4)), (None, stair))
        self.assertEqual(stepped(GREATEST, stair, 9, ("top", 5)), (None, (stair[0], ((5, 9, 0),))))
        self.assertEqual(stepped(GREATEST, first_stair(GREATEST), 0, ("ask",)), ((), first_stair(GREATEST)))
        self.assertEqual(stepped(ECHO, first_stair(ECHO), 3, ("say", 5, 7)), ((5, 3, 0), (((0, 1, ()),), ())))

    def test_stepped_tells_new_notes_too(self):
        both = (("a",), (("x", 2),), (((0, (None,), ("kth", 2, (("came", 0), ("came", 1), ("cell", "a")))),),))
        self.assertEqual(stepped(both, first_stair(both), 4, ("x", 3, 8))[0], (3, 4, 0))
        self.assertEqual(stepped(both, first_stair(both), 4, ("x", 3, 3))[0], (3, 4, 0))
        self.assertEqual(stepped(both, first_stair(both), 4, ("x", 3, -HUGE))[0], (-HUGE, 4, 1))

    def test_none_is_not_nothing(self):
        self.assertEqual(stepped(PAIR, first_stair(PAIR), 0, ("one", 5))[0], ())
        self.assertIsNone(stepped(PAIR, first_stair(PAIR), 0, ("turn",))[0])


class BehindHistories(Stairs):
    def test_of_programs(self):
        chance = random.Random(61)
        for program in JUDGED:
            plain = Plain(program, program)
            for times in range(12):
                self.follow(plain, any_history(chance, program, 10, numbers=NUMBERS))

    def test_of_programs_that_tell_the_same(self):
        chance = random.Random(62)
        for program in JUDGED:
            for other in same_telling(program)[1:]:
                self.follow(Plain(other, other), any_history(chance, program, 10))

    def test_all_short_histories(self):
        plain = Plain(PAIR, PAIR)
        deeds = [("put", 1, 1), ("put", 2, 1), ("put", 1, 2), ("turn",), ("one", 1), ("one", 2)]
        for history in itertools.product(deeds, repeat=3):
            self.follow(plain, history)
        plain = Plain(SECONDS, SECONDS)
        for history in itertools.product([("push", 1), ("push", 2), ("ask",), ("clear",)], repeat=4):
            self.follow(plain, history)

    def test_with_guards(self):
        chance = random.Random(63)
        for program, guard in ((PAIR, ((0, 1, 1), (None, 0, 1))), (SECONDS, TURNS), (SECONDS, TWINS),
                               (MIDDLE, ((1, None), (2, 0), (None, 0)))):
            plain = Plain(program, program, guard)
            for times in range(12):
                self.follow(plain, any_history(chance, program, 10, guard, numbers=NUMBERS))
        self.follow(Plain(PAIR, PAIR, ORDER), (("put", 3, 3), ("turn",), ("turn",), ("turn",), ("one", 3)))

    def test_of_programs_by_chance(self):
        chance = random.Random(64)
        for turn in range(80):
            program = any_program(chance, any_deeds(chance, 3), 3)
            guard = chance.choice((None, any_guard(chance, program[1])))
            self.follow(Plain(program, program, guard), any_history(chance, program, 8, guard, numbers=range(-2, 3)))

    def test_of_300_deeds(self):
        chance = random.Random(65)
        for program, guard in ((MIDDLE, None), (SECONDS, TURNS), (PAIR, None)):
            history = any_history(chance, program, 300, guard, numbers=range(-50, 50))
            stair, answers = first_stair(program, guard=guard), []
            for at, deed in enumerate(history):
                answer, stair = stepped(program, stair, at, deed, guard=guard)
                answers.append(answer)
            self.assertEqual(stair_of(program, history, guard=guard), stair)
            self.assertEqual(told(program, history), tuple(answers))

    def test_done_later_than_it_was(self):
        # Only the order of the notes counts: from a greater at all goes on alike.
        for gap in (0, 1, 1000):
            stair, run = stair_of(MIDDLE, (("push", 5), ("push", 5))), Run(MIDDLE)
            run.do(("push", 5)), run.do(("push", 5))
            run = Run(MIDDLE, mode=run.mode(), held=run.held(), at=2 + gap)
            for step, deed in enumerate((("push", 5), ("ask",), ("push", 6), ("ask",), ("push", 5), ("ask",))):
                answer, stair = stepped(MIDDLE, stair, 2 + gap + step, deed)
                self.assertEqual(answer, run.do(deed))


class SameStairs(unittest.TestCase):
    """Promise (b): two histories of as many deeds are answered alike ever after just where the stairs are the same."""

    def check(self, program, histories):
        plain = Plain(program, program)
        for one, other in itertools.combinations_with_replacement(histories, 2):
            self.assertEqual(stair_of(program, one) == stair_of(program, other), self.alike(plain, one, other))

    def alike(self, plain, one, other):
        """Whether under each bar both histories come to like shadows."""
        notes = sorted(set(notes_of(one) + notes_of(other)))
        ends = [end_of(plain.one, history) for history in (one, other)]
        return all((shadow_at(ends[0], bar), shadow_at(ends[1], bar)) in plain.like for bar in notes + [None])

    def test_short_histories(self):
        deeds = [("push", 1), ("push", 2), ("ask",), ("clear",)]
        self.check(SECONDS, list(itertools.product(deeds, repeat=3)))
        deeds = [("put", 1, 1), ("put", 2, 1), ("put", 1, 2), ("turn",), ("one", 1), ("one", 2)]
        self.check(PAIR, list(itertools.product(deeds, repeat=2)))


class Refused(unittest.TestCase):
    def refused(self, error, value, function, *given, **named):
        with self.assertRaises(error) as caught:
            function(*given, **named)
        self.assertIs(caught.exception.deed, value)

    def test_no_history(self):
        for thing in ANYTHING:
            if type(thing) is not tuple:
                for guard in (None, TURNS):
                    self.refused(NoDeed, thing, stair_of, SECONDS, thing, guard=guard)
        history = [("push", 1)]
        self.refused(NoDeed, history, stair_of, SECONDS, history)

    def test_the_first_that_is_no_deed(self):
        for thing in NO_DEEDS + ANYTHING:
            for ahead in ((), (("push", 1),), (("push", 1), ("push", 2), ("ask",))):
                for behind in ((), (("ask",),), (("pull",), None)):
                    for guard in (None, TURNS):
                        self.refused(NoDeed, thing, stair_of, SECONDS, ahead + (thing,) + behind, guard=guard)

    def test_no_deed_ahead_of_not_let(self):
        for thing in NO_DEEDS + ANYTHING:
            self.refused(NoDeed, thing, stair_of, SECONDS, (("ask",), thing), guard=TURNS)
            self.refused(NoDeed, thing, stair_of, SECONDS, (("push", 1), ("clear",), ("ask",), thing), guard=TURNS)
            self.refused(NoDeed, thing, stepped, SECONDS, first_stair(SECONDS, guard=TURNS), 0, thing, guard=TURNS)
            self.refused(NoDeed, thing, stepped, SECONDS, first_stair(SECONDS), 0, thing)

    def test_the_first_that_is_not_let(self):
        for history, at in (((("ask",),), 0), ((("push", 1), ("ask",)), 1),
                            ((("push", 1), ("push", 2), ("push", 3)), 2),
                            ((("push", 1), ("clear",), ("ask",)), 1),
                            ((("push", 1), ("push", 1), ("ask",), ("clear",), ("clear",), ("push", 0)), 4)):
            self.refused(NotLet, history[at], stair_of, SECONDS, history, guard=TURNS)

    def test_stepped_that_is_not_let(self):
        stair = first_stair(SECONDS, guard=TURNS)
        for deed in (("ask",), ("clear",)):
            self.refused(NotLet, deed, stepped, SECONDS, stair, 0, deed, guard=TURNS)
        stair = stair_of(SECONDS, (("push", 1), ("push", 2)), guard=TURNS)
        deed = ("push", 3)
        self.refused(NotLet, deed, stepped, SECONDS, stair, 2, deed, guard=TURNS)

    def test_behind_a_place_that_lets_nothing(self):
        history = (("put", 1, 2), ("one", 3))
        stair = stair_of(PAIR, history, guard=ORDER)
        self.assertEqual(stair, (((2, 0, (0, 0)),), ()))
        for deed in (("put", 1, 2), ("turn",), ("one", 3)):
            self.refused(NotLet, deed, stepped, PAIR, stair, 2, deed, guard=ORDER)
            self.refused(NotLet, deed, stair_of, PAIR, history + (deed,), guard=ORDER)


class Handed(unittest.TestCase):
    def test_names(self):
        for function, names in ((first_stair, ["program", "guard"]), (stair_of, ["program", "history", "guard"]),
                                (stepped, ["program", "stair", "at", "deed", "guard"])):
            self.assertEqual(list(inspect.signature(function).parameters), names)
            self.assertEqual(inspect.signature(function).parameters["guard"].kind, inspect.Parameter.KEYWORD_ONLY)
            self.assertIsNone(inspect.signature(function).parameters["guard"].default)

    def test_by_names_and_asked_again(self):
        stair = kept_as_is(self, first_stair, SECONDS, guard=TURNS)
        self.assertEqual(first_stair(guard=TURNS, program=SECONDS), stair)
        told_so = kept_as_is(self, stepped, SECONDS, stair, 0, ("push", 4), guard=TURNS)
        self.assertEqual(stepped(guard=TURNS, deed=("push", 4), at=0, stair=stair, program=SECONDS), told_so)
        behind = kept_as_is(self, stair_of, SECONDS, (("push", 4),), guard=TURNS)
        self.assertEqual(stair_of(guard=TURNS, history=(("push", 4),), program=SECONDS), behind)
        self.assertEqual(told_so, (None, behind))

    def test_tuples_all_through(self):
        answer, stair = stepped(PAIR, stair_of(PAIR, (("put", 1, 2),)), 1, ("put", 0, 3))
        self.assertIs(type(stepped(PAIR, stair, 2, ("turn",))), tuple)
        for part in (stair, stair[0], stair[1], *stair[0], *stair[1], answer, *[shadow[2] for shadow in stair[0]]):
            self.assertIs(type(part), tuple)
        hash(stair)


if __name__ == "__main__":
    unittest.main()
