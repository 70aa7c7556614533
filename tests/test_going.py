import inspect
import itertools
import random
import unittest

from stilltold.errors import NoDeed, NotCame, NotLet
from stilltold.going import gone, shows_gone
from stilltold.stairs import stair_of
from tests.helper import (ANYTHING, ECHO, GREATEST, HUGE, JUDGED, MIDDLE, NOTHING, ORDER, PAIR, PATIENT, SECONDS, TURNS,
                          TWINS, Judges, Plain, any_deeds, any_guard, any_history, any_program, end_of, kept_as_is,
                          nearly, notes_of, same_telling, shadow_at, stair_by_words, with_idle_cell)

NUMBERS = (-HUGE, -2, -1, 0, 1, 1, 1, 2, HUGE)
FOUR = (("push", 5), ("push", 4), ("push", 3), ("push", 4))


def pair_of(plain, history, note):
    """The run's shadows under the note, and under the next greater note that came."""
    end = end_of(plain.one, history, plain.guard)
    greater = [other for other in notes_of(history) if other > note]
    return shadow_at(end, note), shadow_at(end, min(greater, default=None))


class Gone(Judges, unittest.TestCase):
    def follow(self, plain, history):
        """Of each note that came: None just where the stair holds it, else the least table with its pair."""
        program, guard = plain.one, plain.guard
        held = stair_by_words(plain, history)[1]
        for note in notes_of(history):
            pair = pair_of(plain, history, note)
            told = gone(program, history, note, guard=guard)
            self.assertEqual(told is None, note in held)
            self.assertEqual(told is None, note in stair_of(program, history, guard=guard)[1])
            if told is None:
                self.no(shows_gone, program, history, note, tuple(sorted(plain.like)), guard=guard)
            else:
                self.assertEqual(told, plain.led_to(pair))
                self.assertIn(pair, told)
                self.yes(shows_gone, program, history, note, told, guard=guard)
                self.yes(shows_gone, program, history, note, tuple(sorted(plain.like)), guard=guard)


class Tables(Gone):
    def test_by_hand(self):
        self.assertIsNone(gone(GREATEST, (("top", 5), ("top", 3)), (5, 0, 0)))
        zero, one = (0, 0, (0,)), (0, 0, (1,))
        # Under 3 and under 5, the next greater one, the cell is 1.
        self.assertEqual(gone(GREATEST, (("top", 5), ("top", 3)), (3, 1, 0)), ((one, one),))
        # None is greater than 5, and the cell, which is none, is 0.
        clear = (("a",), (("put", 1), ("clear", 0)), (((0, (("came", 0),), None), (0, (("none",),), ("cell", "a"))),))
        self.assertEqual(gone(clear, (("put", 5), ("clear",)), (5, 0, 0)), ((zero, zero), (one, one)))

    def test_the_runs_own_shadows(self):
        # Not their least likes: the idle cell is 1 under the note and 0 above it.
        idle = with_idle_cell(GREATEST)
        told = gone(idle, (("top", 3), ("top", 5), ("top", 4)), (4, 2, 0))
        self.assertIn(((0, 0, (1, 1)), (0, 0, (0, 1))), told)
        self.assertEqual(told, (((0, 0, (0, 1)), (0, 0, (0, 1))), ((0, 0, (1, 1)), (0, 0, (0, 1))),
                                ((0, 0, (1, 1)), (0, 0, (1, 1)))))

    def test_above_all_notes(self):
        # The greatest note that came is gone: its pair is with (place, mode, all 0).
        told = gone(PATIENT, (("go", 1),) * 4 + (("go", 9),), (9, 4, 0))
        self.assertEqual(told, (((0, 3, (0,)), (0, 3, (0,))),))
        told = gone(with_idle_cell(PATIENT), (("go", 1),) * 4 + (("go", 9),), (9, 4, 0))
        self.assertIn(((0, 3, (1, 0)), (0, 3, (0, 0))), told)

    def test_equal_numbers(self):
        history = (("top", 5), ("top", 5), ("top", 5))
        self.assertIsNone(gone(GREATEST, history, (5, 2, 0)))
        self.assertIsNotNone(gone(GREATEST, history, (5, 1, 0)))
        self.assertIsNotNone(gone(GREATEST, history, (5, 0, 0)))

    def test_two_numbers_in_one_deed(self):
        history = (("put", 4, 4), ("put", 2, 2))
        plain = Plain(PAIR, PAIR)
        self.follow(plain, history)
        self.assertIsNone(gone(PAIR, history, (2, 1, 1)))
        self.assertEqual(gone(PAIR, history, (4, 0, 1)), plain.led_to(((0, 0, (0, 0)), (0, 0, (0, 0)))))
        self.assertIsNotNone(gone(ECHO, (("say", 1, 2),), (2, 0, 1)))

    def test_of_programs(self):
        chance = random.Random(91)
        for program in JUDGED:
            for other in same_telling(program):
                plain = Plain(other, other)
                for many in range(7):
                    self.follow(plain, any_history(chance, program, many, numbers=NUMBERS))

    def test_all_short_histories(self):
        plain = Plain(PAIR, PAIR)
        deeds = [("put", 1, 1), ("put", 2, 1), ("put", 1, 2), ("turn",), ("one", 1), ("one", 2)]
        for history in itertools.product(deeds, repeat=3):
            self.follow(plain, history)

    def test_with_guards(self):
        chance = random.Random(92)
        for program, guard in ((PAIR, ((0, 1, 1), (None, 0, 1))), (SECONDS, TURNS), (SECONDS, TWINS),
                               (MIDDLE, ((1, None), (2, 0), (None, 0)))):
            plain = Plain(program, program, guard)
            for many in range(1, 10):
                self.follow(plain, any_history(chance, program, many, guard, numbers=NUMBERS))
        self.follow(Plain(PAIR, PAIR, ORDER), (("put", 3, 3), ("turn",), ("one", 3)))

    def test_gone_by_a_guard_alone(self):
        history = (("push", 5), ("push", 3))
        self.assertIsNone(gone(SECONDS, history, (5, 0, 0)))
        self.assertIn(((2, 0, (1, 0)), (2, 0, (0, 0))), gone(SECONDS, history, (5, 0, 0), guard=TURNS))

    def test_by_chance(self):
        chance = random.Random(93)
        for turn in range(80):
            program = any_program(chance, any_deeds(chance, 3), 3)
            guard = chance.choice((None, any_guard(chance, program[1])))
            plain = Plain(program, program, guard)
            self.follow(plain, any_history(chance, program, 6, guard, numbers=range(-2, 3)))


class ShowsGone(Gone):
    CASES = ((SECONDS, FOUR, (3, 2, 0), None), (SECONDS, FOUR, (4, 1, 0), None), (SECONDS, FOUR, (5, 0, 0), None),
             (GREATEST, (("top", 5), ("top", 3)), (3, 1, 0), None), (PATIENT, (("go", 1), ("go", 2)), (2, 1, 0), None),
             (SECONDS, (("push", 5), ("push", 3)), (5, 0, 0), TURNS), (ECHO, (("say", 1, 1),), (1, 0, 0), None),
             (PAIR, (("put", 3, 3), ("turn",), ("one", 3)), (3, 0, 1), ORDER),
             (with_idle_cell(GREATEST), (("top", 3), ("top", 5), ("top", 4)), (4, 2, 0), None))

    def look(self, plain, history, note, thing):
        right = plain.is_table(thing) and pair_of(plain, history, note) in thing
        self.assertIs(shows_gone(plain.one, history, note, thing, guard=plain.guard), right, thing)
        return right

    def test_put_together_with_others(self):
        for program, history, note, guard in self.CASES:
            plain = Plain(program, program, guard)
            told = gone(program, history, note, guard=guard) or ()
            for pair in sorted(plain.like):
                self.look(plain, history, note, tuple(sorted(set(told + plain.led_to(pair)))))

    def test_tables_without_the_pair(self):
        without = 0
        for program, history, note, guard in self.CASES:
            plain = Plain(program, program, guard)
            for pair in sorted(plain.like):
                without += not self.look(plain, history, note, plain.led_to(pair))
            self.no(shows_gone, program, history, note, (), guard=guard)
        self.assertGreater(without, 20)

    def test_spoilt_tables(self):
        for program, history, note, guard in self.CASES:
            plain = Plain(program, program, guard)
            told = gone(program, history, note, guard=guard) or ()
            for thing in nearly(told):
                self.look(plain, history, note, thing)
            self.look(plain, history, note, told[::-1])
            self.look(plain, history, note, tuple(pair[::-1] for pair in told))
            self.look(plain, history, note, tuple(sorted(pair[::-1] for pair in told)))

    def test_of_anything(self):
        for program, history, note, guard in self.CASES:
            plain = Plain(program, program, guard)
            pair = pair_of(plain, history, note)
            for thing in ANYTHING:
                for wrapped in (thing, (thing,), [pair], (pair, thing), (thing, pair), ((thing, thing),),
                                ((pair[0], thing),)):
                    self.look(plain, history, note, wrapped)

    def test_where_it_is_held(self):
        plain = Plain(SECONDS, SECONDS)
        for thing in ((), tuple(sorted(plain.like)), (pair_of(plain, FOUR, (5, 0, 0)),), None):
            self.no(shows_gone, SECONDS, FOUR, (5, 0, 0), thing)


class Refused(unittest.TestCase):
    def refused(self, error, value, *given, **named):
        for function, more in ((gone, ()), (shows_gone, ((),)), (shows_gone, ([{}],))):
            with self.assertRaises(error) as caught:
                function(*given, *more, **named)
            self.assertIs(caught.exception.note if error == NotCame else caught.exception.deed, value)

    def test_no_history(self):
        for thing in ANYTHING:
            for note in ((1, 0, 0), None):
                if type(thing) is not tuple:
                    self.refused(NoDeed, thing, SECONDS, thing, note)
                self.refused(NoDeed, thing, SECONDS, (("push", 1), thing), note)
                self.refused(NoDeed, thing, SECONDS, (("ask",), thing), note, guard=TURNS)

    def test_not_let(self):
        deed = ("ask",)
        for note in ((1, 0, 0), (9, 9, 0), None, [1]):
            self.refused(NotLet, deed, SECONDS, (("push", 1), deed), note, guard=TURNS)
            self.refused(NotLet, deed, SECONDS, (("push", 1), deed, ("clear",)), note, guard=TURNS)

    def test_not_came(self):
        history = (("push", 1), ("push", 0), ("ask",))
        bad = ((1, 0, 1), (1, 1, 0), (0, 0, 0), (0, 2, 0), (2, 0, 0), (), [1, 0, 0], (True, 0, 0), (1, False, 0),
               (1, 0, False), (False, 1, 0), (0, True, 0), ("1", 0, 0), (1, 0), (1, 0, 0, 0), ((1, 0, 0),))
        for thing in bad + ANYTHING:
            self.refused(NotCame, thing, SECONDS, history, thing)
            self.refused(NotCame, thing, SECONDS, (), thing)
            self.refused(NotCame, thing, SECONDS, (("push", 1), ("push", 0), ("ask",)), thing, guard=TURNS)
            self.refused(NotCame, thing, NOTHING, (("ask",),), thing)
        for thing in nearly((1, 0, 0)):
            if type(thing) is not tuple or repr(thing) not in ("(1, 0, 0)", "(0, 1, 0)"):
                self.refused(NotCame, thing, SECONDS, history, thing)


class Handed(unittest.TestCase):
    def test_names(self):
        for function, names in ((gone, ["program", "history", "note", "guard"]),
                                (shows_gone, ["program", "history", "note", "thing", "guard"])):
            self.assertEqual(list(inspect.signature(function).parameters), names)
            self.assertEqual(inspect.signature(function).parameters["guard"].kind, inspect.Parameter.KEYWORD_ONLY)
            self.assertIsNone(inspect.signature(function).parameters["guard"].default)

    def test_by_names_and_asked_again(self):
        history = (("push", 5), ("push", 3))
        told = kept_as_is(self, gone, SECONDS, history, (5, 0, 0), guard=TURNS)
        self.assertEqual(gone(guard=TURNS, note=(5, 0, 0), history=history, program=SECONDS), told)
        self.assertIs(shows_gone(guard=TURNS, thing=told, note=(5, 0, 0), history=history, program=SECONDS), True)
        self.assertIs(kept_as_is(self, shows_gone, SECONDS, history, (5, 0, 0), told, guard=TURNS), True)
        self.assertIs(kept_as_is(self, shows_gone, SECONDS, history, (5, 0, 0), [[1], {}], guard=TURNS), False)


if __name__ == "__main__":
    unittest.main()
