import inspect
import itertools
import random
import unittest

from stilltold.errors import NoPair
from stilltold.likeness import least_like, parting, table
from stilltold.shadows import first_shadow
from tests.helper import (ANYTHING, ECHO, GREATEST, JUDGED, LAST, NOTHING, ORDER, PAIR, PATIENT, SECONDS, TURNS, TWINS,
                          Plain, all_shadows, any_deeds, any_guard, any_program, bare_program, kept_as_is, other_deeds,
                          same_telling, turned_about, with_idle_cell, with_modes_twice)

# Cells that hand on what they hold: the last one's is told, so that a row of three deeds parts the first ones'.
HAND = (("a", "b", "c"), (("on", 0),), (((0, (("none",), ("cell", "a"), ("cell", "b")), ("cell", "c")),),))


class Likeness(unittest.TestCase):
    def go_through(self, one, other, guard=None, most=2, pairs=None):
        """Parting and table of pairs of shadows, against a plain going through of rows of at most so many deeds."""
        plain = Plain(one, other, guard)
        for shadow, its in pairs or itertools.product(plain.moves[0], plain.moves[1]):
            row = parting(one, shadow, other, its, guard=guard)
            found = table(one, shadow, other, its, guard=guard)
            if (shadow, its) in plain.like:
                self.assertIsNone(row)
                self.assertEqual(found, plain.led_to((shadow, its)))
                self.assertTrue(plain.is_table(found))
            else:
                self.assertIsNone(found)
                self.assertTrue(plain.parts(shadow, its, row))
                first = plain.first_parting(shadow, its, min(most, len(row)))
                self.assertEqual(first, row if len(row) <= most else None)
        return plain


class OfOneProgram(Likeness):
    def test_by_hand(self):
        self.assertEqual(parting(GREATEST, (0, 0, (0,)), GREATEST, (0, 0, (1,))), (("ask",),))
        self.assertEqual(parting(PATIENT, (0, 1, (0,)), PATIENT, (0, 1, (1,))), (("go", 0), ("go", 0), ("go", 0)))
        self.assertEqual(parting(PATIENT, (0, 3, (0,)), PATIENT, (0, 3, (1,))), (("go", 0),))
        self.assertIsNone(parting(PATIENT, (0, 0, (0,)), PATIENT, (0, 0, (1,))))
        self.assertEqual(parting(HAND, (0, 0, (0, 0, 0)), HAND, (0, 0, (1, 0, 0))), (("on",),) * 3)
        self.assertEqual(parting(HAND, (0, 0, (0, 1, 0)), HAND, (0, 0, (1, 0, 0))), (("on",),) * 2)
        self.assertEqual(parting(SECONDS, (0, 0, (0, 0)), SECONDS, (0, 0, (1, 0))), (("push", 1), ("ask",)))

    def test_nothing_told_is_not_0(self):
        quiet = ((), (("go", 0),), (((0, (), None),), ((0, (), ("none",)),)))
        self.assertEqual(parting(quiet, (0, 0, ()), quiet, (0, 1, ())), (("go",),))
        self.assertIsNone(table(quiet, (0, 0, ()), quiet, (0, 1, ())))

    def test_the_first_of_the_shortest(self):
        both = (("a",), (("b", 1), ("a", 2)), (((0, (None,), ("cell", "a")), (0, (None,), ("cell", "a"))),))
        self.assertEqual(parting(both, (0, 0, (1,)), both, (0, 0, (0,))), (("a", 0, 0),))
        gate = (("a",), (("b", 1), ("a", 2)),
                (((0, (None,), ("least", (("cell", "a"), ("came", 0)))),
                  (0, (None,), ("kth", 3, (("cell", "a"), ("came", 0), ("came", 1))))),))
        self.assertEqual(parting(gate, (0, 0, (1,)), gate, (0, 0, (0,))), (("a", 1, 1),))

    def test_least_table_by_hand(self):
        self.assertEqual(table(GREATEST, (0, 0, (0,)), GREATEST, (0, 0, (0,))),
                         (((0, 0, (0,)), (0, 0, (0,))), ((0, 0, (1,)), (0, 0, (1,)))))
        self.assertEqual(table(GREATEST, (0, 0, (1,)), GREATEST, (0, 0, (1,))), (((0, 0, (1,)), (0, 0, (1,))),))
        self.assertEqual(table(NOTHING, (0, 0, ()), NOTHING, (0, 0, ())), (((0, 0, ()), (0, 0, ())),))
        first, second = (0, 0, ()), (0, 1, ())
        self.assertEqual(table(ECHO, second, ECHO, second), ((first, first), (second, second)))
        self.assertIsNone(table(ECHO, first, ECHO, second))

    def test_of_programs(self):
        for program in JUDGED:
            self.go_through(program, program)
        self.go_through(HAND, HAND, most=4)

    def test_with_guards(self):
        self.go_through(PAIR, PAIR, ORDER)
        self.go_through(SECONDS, SECONDS, TURNS)
        self.go_through(SECONDS, SECONDS, TWINS, most=3)
        self.go_through(PATIENT, PATIENT, ((1,), (2,), (None,)), most=5)
        self.go_through(SECONDS, SECONDS, ((None, None, None),))

    def test_a_deed_let_from_just_one(self):
        self.assertEqual(parting(SECONDS, (1, 0, (0, 0)), SECONDS, (2, 0, (0, 0)), guard=TURNS), (("ask",),))
        self.assertEqual(parting(SECONDS, (2, 0, (0, 0)), SECONDS, (0, 0, (0, 0)), guard=TURNS), (("ask",),))
        self.assertEqual(parting(SECONDS, (0, 0, (0, 0)), SECONDS, (1, 0, (0, 0)), guard=TURNS),
                         (("push", 0), ("ask",)))
        self.assertIsNone(parting(SECONDS, (1, 0, (1, 0)), SECONDS, (2, 0, (1, 0)), guard=TWINS))

    def test_a_shadow_with_itself(self):
        for program, guard in [(program, None) for program in JUDGED] + [(PAIR, ORDER), (SECONDS, TURNS)]:
            for shadow in all_shadows(program, 1 if guard is None else len(guard)):
                self.assertIsNone(parting(program, shadow, program, shadow, guard=guard))
                found = table(program, shadow, program, shadow, guard=guard)
                self.assertTrue(all(left == right for left, right in found))

    def test_nothing_let_is_like_all(self):
        shut = ((None, None),)
        pair = ((0, 0, (0,)), (0, 0, (1,)))
        self.assertIsNone(parting(GREATEST, pair[0], GREATEST, pair[1], guard=shut))
        self.assertEqual(table(GREATEST, pair[0], GREATEST, pair[1], guard=shut), (pair,))

    def test_of_programs_by_chance(self):
        chance = random.Random(51)
        for turn in range(60):
            program = any_program(chance, any_deeds(chance, 2), 2)
            self.go_through(program, program)

    def test_of_programs_by_chance_with_guards(self):
        chance = random.Random(52)
        for turn in range(40):
            program = any_program(chance, any_deeds(chance, 2), 2)
            guard = any_guard(chance, program[1])
            shadows = all_shadows(program, len(guard))
            pairs = [(chance.choice(shadows), chance.choice(shadows)) for times in range(60)]
            self.go_through(program, program, guard, pairs=pairs)


class OfTwoPrograms(Likeness):
    def test_that_tell_the_same(self):
        for program, guard in [(program, None) for program in (GREATEST, PAIR, SECONDS, ECHO)] + [(PAIR, ORDER)]:
            for other in same_telling(program):
                plain = self.go_through(program, other, guard, most=1)
                first = (first_shadow(program), first_shadow(other))
                self.assertIn(first, plain.like)
                self.assertIn(first, table(program, first[0], other, first[1], guard=guard))

    def test_the_one_ahead_of_the_other(self):
        idle = with_idle_cell(GREATEST)
        self.assertEqual(table(GREATEST, (0, 0, (1,)), idle, (0, 0, (0, 1))),
                         (((0, 0, (1,)), (0, 0, (0, 1))), ((0, 0, (1,)), (0, 0, (1, 1)))))
        self.assertEqual(table(idle, (0, 0, (0, 1)), GREATEST, (0, 0, (1,))),
                         (((0, 0, (0, 1)), (0, 0, (1,))), ((0, 0, (1, 1)), (0, 0, (1,)))))

    def test_that_tell_otherwise(self):
        self.go_through(GREATEST, LAST, most=3)
        self.assertEqual(parting(GREATEST, (0, 0, (0,)), LAST, (0, 0, (0,))), (("top", 1), ("top", 0), ("ask",)))
        # Behind a guard that lets but one number they are like.
        self.go_through(GREATEST, LAST, ((1, None), (None, 1)))
        self.assertIsNone(parting(GREATEST, (0, 0, (0,)), LAST, (0, 0, (0,)), guard=((1, None), (None, 1))))

    def test_by_chance(self):
        chance = random.Random(53)
        for turn in range(60):
            deeds = any_deeds(chance, 2)
            one, other = any_program(chance, deeds, 2), any_program(chance, deeds, 2)
            guard = chance.choice((None, any_guard(chance, deeds)))
            pairs = [(shadow, its) for shadow in all_shadows(one, len(guard or "g"))
                     for its in all_shadows(other, len(guard or "g"))]
            self.go_through(one, other, guard, pairs=chance.sample(pairs, min(40, len(pairs))))

    def test_no_pair(self):
        for one, other in other_deeds():
            self.assertRaises(NoPair, parting, one, first_shadow(one), other, first_shadow(other))
            self.assertRaises(NoPair, table, one, first_shadow(one), other, first_shadow(other))

    def test_no_pair_ahead_of_all(self):
        for one, other in other_deeds():
            for thing in ANYTHING:
                for guard in (None, thing):
                    self.assertRaises(NoPair, parting, one, thing, other, thing, guard=guard)
                    self.assertRaises(NoPair, table, one, thing, other, thing, guard=guard)

    def test_by_names_and_asked_again(self):
        for function in (parting, table):
            names = inspect.signature(function).parameters
            self.assertEqual(list(names), ["one", "shadow", "other", "its", "guard"])
            self.assertEqual(names["guard"].kind, inspect.Parameter.KEYWORD_ONLY)
        other = turned_about(SECONDS)
        told = parting(guard=TURNS, its=(2, 0, (1, 0)), other=other, shadow=(2, 0, (1, 0)), one=SECONDS)
        self.assertEqual(told, (("ask",),))
        self.assertEqual(kept_as_is(self, parting, SECONDS, (2, 0, (1, 0)), other, (2, 0, (1, 0)), guard=TURNS), told)
        self.assertIsNone(table(guard=TURNS, its=(2, 0, (1, 0)), other=other, shadow=(2, 0, (1, 0)), one=SECONDS))
        told = kept_as_is(self, table, SECONDS, (2, 0, (1, 0)), other, (2, 0, (0, 1)), guard=TURNS)
        self.assertEqual(table(its=(2, 0, (0, 1)), shadow=(2, 0, (1, 0)), other=other, one=SECONDS, guard=TURNS), told)
        self.assertEqual(table(SECONDS, (0, 0, (0, 0)), SECONDS, (0, 0, (0, 0)), guard=None),
                         table(SECONDS, (0, 0, (0, 0)), SECONDS, (0, 0, (0, 0))))
        self.assertRaises(TypeError, parting, SECONDS, (0, 0, (0, 0)), SECONDS, (0, 0, (0, 0)), None)
        self.assertRaises(TypeError, table, SECONDS, (0, 0, (0, 0)), SECONDS, (0, 0, (0, 0)), None)


class LeastLike(Likeness):
    def go_through_all(self, program, guard=None):
        plain = Plain(program, program, guard)
        for shadow in plain.moves[0]:
            self.assertEqual(least_like(program, shadow, guard=guard), plain.least_like(shadow))

    def test_by_hand(self):
        self.assertEqual(least_like(GREATEST, (0, 0, (1,))), (0, 0, (1,)))
        self.assertEqual(least_like(PATIENT, (0, 0, (1,))), (0, 0, (0,)))
        self.assertEqual(least_like(with_idle_cell(GREATEST), (0, 0, (1, 1))), (0, 0, (0, 1)))
        self.assertEqual(least_like(NOTHING, (0, 0, ())), (0, 0, ()))

    def test_another_mode(self):
        self.assertEqual(least_like(with_modes_twice(GREATEST), (0, 1, (1,))), (0, 0, (1,)))
        self.assertEqual(least_like(bare_program(("a", "b"), (("x", 1),), 4), (0, 3, (1, 1))), (0, 0, (0, 0)))

    def test_another_place(self):
        self.assertEqual(least_like(SECONDS, (2, 0, (1, 0)), guard=TWINS), (1, 0, (0, 0)))
        self.assertEqual(least_like(SECONDS, (2, 0, (0, 1)), guard=TWINS), (1, 0, (0, 1)))
        self.assertEqual(least_like(SECONDS, (2, 0, (1, 1)), guard=TURNS), (2, 0, (0, 1)))

    def test_another_place_and_mode_that_are_never_come_to(self):
        # From mode 1 and place 1 one comes to mode 0 and place 0 never again; still these are the least.
        program = (("a",), (("x", 1),), (((0, (("came", 0),), ("cell", "a")),), ((1, (("came", 0),), ("cell", "a")),)))
        self.assertEqual(least_like(program, (1, 1, (1,)), guard=((0,), (1,))), (0, 0, (1,)))

    def test_with_a_guard_that_lets_less(self):
        self.assertEqual(least_like(GREATEST, (0, 0, (1,)), guard=((0, None),)), (0, 0, (0,)))
        self.assertEqual(least_like(GREATEST, (0, 0, (1,)), guard=((0, 0),)), (0, 0, (1,)))

    def test_of_programs(self):
        for program in JUDGED + (HAND,):
            for other in same_telling(program)[1:]:
                self.go_through_all(other)
            self.go_through_all(program)
        for program, guard in ((PAIR, ORDER), (SECONDS, TURNS), (SECONDS, TWINS), (PATIENT, ((1,), (0,)))):
            self.go_through_all(program, guard)

    def test_by_chance(self):
        chance = random.Random(54)
        for turn in range(60):
            program = any_program(chance, any_deeds(chance, 2), 2)
            self.go_through_all(program)
            self.go_through_all(program, any_guard(chance, program[1]))

    def test_of_as_many_shadows_as_are_promised(self):
        cells = tuple("abcdef")
        shift = (("came", 0),) + tuple(("cell", cell) for cell in cells[:-1])
        program = (cells, (("x", 1),), tuple(((mode, shift, ("cell", "f")),) for mode in range(2)))
        guard = ((1,), (0,))
        for bits in all_shadows(program, 1)[::7]:
            self.assertEqual(least_like(program, (1, 1, bits[2]), guard=guard), (0, 0, bits[2]))

    def test_by_names_and_asked_again(self):
        self.assertEqual(least_like(guard=TWINS, shadow=(2, 0, (0, 1)), program=SECONDS), (1, 0, (0, 1)))
        self.assertEqual(kept_as_is(self, least_like, SECONDS, (2, 0, (0, 1)), guard=TWINS), (1, 0, (0, 1)))
        self.assertEqual(least_like(SECONDS, (0, 0, (0, 1)), guard=None), (0, 0, (0, 1)))
        self.assertRaises(TypeError, least_like, SECONDS, (0, 0, (0, 1)), None)


if __name__ == "__main__":
    unittest.main()
