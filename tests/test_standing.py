import inspect
import itertools
import math
import random
import unittest

from stilltold import standing
from stilltold.errors import TooMany
from stilltold.runs import is_history
from stilltold.stairs import first_stair, stair_of
from stilltold.standing import MOST, leads, most_held, stands
from tests.helper import (ANYTHING, BOTH_ENDS, ECHO, FOREIGN, GREATEST, JUDGED, MIDDLE, NOTHING, ONCE, ORDER, PAIR,
                          PATIENT, SECONDS, TURNS, TWINS, WIDE, Plain, any_deeds, any_guard, any_program, best,
                          falling_out, goings_on, kept_as_is, nearly, same_telling, shut_by_words, stair_by_words)


class Stands(unittest.TestCase):
    def follow(self, program, guard=None, plain=None):
        """All that is told of the stands, against a plain going through of all rows of shadows."""
        plain = Plain(program, program, guard) if plain is None else plain
        found = stands(program, guard=guard)
        first = first_stair(program, guard=guard)[0]
        self.assertEqual(found, tuple(sorted(shut_by_words(plain, [first]))))
        histories = {stand: leads(program, stand, guard=guard) for stand in found}
        for stand, history in histories.items():
            self.assertTrue(is_history(program, history, guard=guard))
            self.assertEqual(stair_by_words(plain, history)[0], stand)
        self.longest(program, guard, histories)
        return histories

    def longest(self, program, guard, histories):
        """most_held, by the stands and the histories that lead to them."""
        many, history = most_held(program, guard=guard)
        self.assertEqual(many, max(len(stand) for stand in histories) - 1)
        self.assertLessEqual(many, len(program[0]))
        self.assertEqual(len(stair_of(program, history, guard=guard)[1]), many)
        self.assertTrue(is_history(program, history, guard=guard))
        shortest = min(len(row) for stand, row in histories.items() if len(stand) == many + 1)
        self.assertEqual(len(history), shortest)

    def short(self, program, most, guard=None):
        """The stands behind all histories of at most so many deeds: just those to which leads needs no more."""
        plain = Plain(program, program, guard)
        histories = self.follow(program, guard, plain)
        shortest = {}
        for many in range(most + 1):
            numbers = range(max(1, many * max(brings for called, brings in program[1])))
            for history in goings_on(program, 0, many, numbers, guard):
                shortest.setdefault(stair_by_words(plain, history)[0], many)
        self.assertEqual(shortest, {stand: len(row) for stand, row in histories.items() if len(row) <= most})


class ByHand(Stands):
    def test_the_greatest(self):
        one, other = ((0, 0, (0,)),), ((0, 0, (1,)), (0, 0, (0,)))
        self.assertEqual(stands(GREATEST), (one, other))
        self.assertEqual(leads(GREATEST, one), ())
        self.assertEqual([deed[0] for deed in leads(GREATEST, other)], ["top"])
        self.assertEqual(most_held(GREATEST)[0], 1)

    def test_the_last_ones(self):
        # Each order in which those that are held came is a stand.
        for many in range(1, 6):
            program = falling_out(many)
            found = stands(program)
            self.assertEqual(len(found), sum(math.factorial(held) for held in range(many + 1)))
            held, history = most_held(program)
            self.assertEqual((held, len(history)), (many, many))
            self.assertEqual(len(leads(program, found[-1])), len(found[-1]) - 1)

    def test_the_best_ones(self):
        for many in range(1, 6):
            program = best(many)
            # Of several cells that are 1 the last one alone counts, for those ahead of it come no sooner to the end.
            shadows = [(0, 0, tuple(int(cell == ones - 1) for cell in range(many))) for ones in range(many + 1)]
            self.assertEqual(stands(program), tuple(sorted(tuple(shadows[held::-1]) for held in range(many + 1))))
            held, history = most_held(program)
            self.assertEqual((held, len(history)), (many, many))

    def test_the_greatest_and_the_least_of_all(self):
        self.assertEqual(stands(BOTH_ENDS),
                         (((0, 0, (0, 0)),),
                          ((0, 1, (1, 1)), (0, 1, (0, 0))),
                          ((0, 1, (1, 1)), (0, 1, (1, 0)), (0, 1, (0, 0)))))
        held, history = most_held(BOTH_ENDS)
        self.assertEqual((held, len(history)), (2, 2))

    def test_what_tells_nothing(self):
        self.assertEqual(stands(NOTHING), (((0, 0, ()),),))
        self.assertEqual(most_held(NOTHING), (0, ()))
        silent = (("a", "b"), (("x", 2),), (((1, (("came", 0), ("came", 1)), None),), ((0, (None, None), None),)))
        self.assertEqual(stands(silent), (((0, 0, (0, 0)),),))
        self.assertEqual(most_held(silent), (0, ()))

    def test_what_tells_its_own_numbers(self):
        self.assertEqual(stands(ECHO), (((0, 0, ()),), ((0, 1, ()),)))
        self.assertEqual(most_held(ECHO), (0, ()))
        self.assertEqual([deed[0] for deed in leads(ECHO, ((0, 1, ()),))], ["say"])

    def test_a_guard_behind_which_nothing_that_tells_is_let(self):
        deaf = ((0, None),)
        self.assertEqual(stands(GREATEST, guard=deaf), (((0, 0, (0,)),),))
        self.assertEqual(most_held(GREATEST, guard=deaf), (0, ()))
        self.assertEqual(stands(SECONDS, guard=((0, None, 0),)), (((0, 0, (0, 0)),),))
        shut = ((None, None),)
        self.assertEqual(stands(MIDDLE, guard=shut), (((0, 0, (0, 0, 0)),),))
        self.assertEqual(most_held(MIDDLE, guard=shut), (0, ()))

    def test_a_guard_of_one_number(self):
        self.assertEqual(stands(GREATEST, guard=ONCE),
                         (((0, 0, (0,)),), ((1, 0, (1,)), (1, 0, (0,)))))
        self.assertEqual([deed[0] for deed in most_held(GREATEST, guard=ONCE)[1]], ["top"])

    def test_either_of_two_in_one_gap_may_be_above(self):
        for between in ((1, 0), (0, 1)):
            stand = ((0, 0, (1, 1)), (0, 0, between), (0, 0, (0, 0)))
            self.assertIn(stand, stands(PAIR))
            self.assertEqual([deed[0] for deed in leads(PAIR, stand)], ["put"])

    def test_patient(self):
        self.assertEqual(most_held(PATIENT)[0], 1)
        self.assertEqual(len(stands(PATIENT)), 4)
        self.assertEqual(len(leads(PATIENT, ((0, 3, (1,)), (0, 3, (0,))))), 3)


class AllStands(Stands):
    def test_of_programs(self):
        for program in JUDGED + (BOTH_ENDS, best(3), falling_out(2)):
            for other in same_telling(program)[:4 if len(program[0]) < 3 else 1]:
                self.follow(other)

    def test_with_guards(self):
        for program, guard in ((PAIR, ORDER), (SECONDS, TURNS), (SECONDS, TWINS), (PAIR, ((0, 1, 1), (None, 0, 1))),
                               (MIDDLE, ((1, None), (2, 0), (None, 0))), (BOTH_ENDS, ((0, 1, None), (None, 0, 1)))):
            self.follow(program, guard)

    def test_of_programs_by_chance(self):
        chance = random.Random(201)
        lengths = set()
        for turn in range(60):
            program = any_program(chance, any_deeds(chance, 2), 3 if turn % 6 == 0 else 2)
            guard = chance.choice((None, any_guard(chance, program[1])))
            lengths.add(len(self.follow(program, guard)))
        self.assertGreater(len(lengths), 6)

    def test_short_histories(self):
        for program, most in ((GREATEST, 4), (MIDDLE, 4), (SECONDS, 4), (PAIR, 2), (BOTH_ENDS, 3), (PATIENT, 4),
                              (ECHO, 2)):
            self.short(program, most)

    def test_short_histories_with_guards(self):
        self.short(PAIR, 3, ORDER)
        self.short(SECONDS, 5, TURNS)
        self.short(SECONDS, 5, TWINS)
        self.short(PAIR, 2, ((0, 1, 1), (None, 0, 1)))

    def test_short_histories_of_programs_by_chance(self):
        chance = random.Random(202)
        for turn in range(25):
            program = any_program(chance, any_deeds(chance, 2), 2)
            guard = chance.choice((None, any_guard(chance, program[1])))
            self.short(program, 2, guard)

    def test_six_cells(self):
        program = falling_out(6)
        self.assertEqual(len(stands(program)), sum(math.factorial(held) for held in range(7)))
        many, history = most_held(program)
        self.assertEqual((many, len(stair_of(program, history)[1])), (6, 6))
        stand = stair_of(program, tuple(("push", number) for number in (3, 1, 4, 1, 5, 9, 2, 6)))[0]
        history = leads(program, stand)
        self.assertEqual((len(history), stair_of(program, history)[0]), (6, stand))


class Refused(unittest.TestCase):
    def refused(self, most, function, *given, **named):
        with self.assertRaises(TooMany) as caught:
            function(*given, most=most, **named)
        self.assertEqual(caught.exception.most, most)

    def test_more_than_most(self):
        for program, guard in ((GREATEST, None), (MIDDLE, None), (NOTHING, None), (PAIR, ORDER), (SECONDS, TURNS)):
            found = stands(program, guard=guard)
            for most in range(len(found)):
                self.refused(most, stands, program, guard=guard)
                self.refused(most, most_held, program, guard=guard)
                for stand in (found[0], found[-1], (), None):
                    self.refused(most, leads, program, stand, guard=guard)

    def test_just_as_many_and_more(self):
        for program, guard in ((GREATEST, None), (MIDDLE, None), (NOTHING, None), (PAIR, ORDER), (SECONDS, TURNS)):
            found = stands(program, guard=guard)
            for most in (len(found), len(found) + 1, 10 ** 50):
                self.assertEqual(stands(program, guard=guard, most=most), found)
                self.assertEqual(most_held(program, guard=guard, most=most), most_held(program, guard=guard))
                self.assertIsNotNone(leads(program, found[-1], guard=guard, most=most))

    def test_anything_is_refused_ahead_of_being_no_stand(self):
        for thing in ANYTHING:
            for most in (0, 1, 9):
                self.refused(most, leads, MIDDLE, thing)
            self.assertIsNone(leads(MIDDLE, thing, most=10))

    def test_the_most_that_is_left_out(self):
        self.assertEqual(MOST, 2000)
        self.assertIs(type(standing.MOST), int)
        with self.assertRaises(TooMany) as caught:
            stands(WIDE)
        self.assertEqual(caught.exception.most, 2000)
        for function, given in ((leads, (WIDE, None)), (most_held, (WIDE,))):
            with self.assertRaises(TooMany) as caught:
                function(*given)
            self.assertEqual(caught.exception.most, 2000)


class NoStand(unittest.TestCase):
    def test_anything(self):
        for program, guard in ((GREATEST, None), (MIDDLE, None), (PAIR, ORDER), (NOTHING, None)):
            for thing in ANYTHING:
                self.assertIsNone(leads(program, thing, guard=guard))

    def test_nearly(self):
        for program, guard in ((GREATEST, None), (PAIR, ORDER), (ECHO, None)):
            found = stands(program, guard=guard)
            for stand in found:
                for thing in nearly(stand, FOREIGN):
                    right = repr(thing) in [repr(other) for other in found]
                    self.assertIs(leads(program, thing, guard=guard) is not None, right, thing)

    def test_rows_of_shadows_that_are_no_stand(self):
        for row in itertools.product(((0, 0, (0,)), (0, 0, (1,))), repeat=2):
            self.assertIs(leads(GREATEST, row) is not None, row == ((0, 0, (1,)), (0, 0, (0,))))
        self.assertIsNone(leads(GREATEST, ((0, 0, (1,)),)))
        # A shadow that is like one of a stand, but not the least.
        other = same_telling(GREATEST)[3]
        self.assertIsNotNone(leads(other, ((0, 0, (1,)), (0, 0, (0,)))))
        self.assertIsNone(leads(other, ((0, 1, (1,)), (0, 1, (0,)))))


class Handed(unittest.TestCase):
    def test_names(self):
        for function, names in ((stands, ["program", "guard", "most"]), (leads, ["program", "stand", "guard", "most"]),
                                (most_held, ["program", "guard", "most"])):
            parameters = inspect.signature(function).parameters
            self.assertEqual(list(parameters), names)
            self.assertEqual([parameters[name].default for name in ("guard", "most")], [None, 2000])
            for name in ("guard", "most"):
                self.assertEqual(parameters[name].kind, inspect.Parameter.KEYWORD_ONLY)

    def test_by_names_and_asked_again(self):
        found = kept_as_is(self, stands, SECONDS, guard=TURNS, most=9)
        self.assertEqual(stands(most=9, guard=TURNS, program=SECONDS), found)
        history = kept_as_is(self, leads, SECONDS, found[1], guard=TURNS, most=9)
        self.assertEqual(leads(most=9, guard=TURNS, stand=found[1], program=SECONDS), history)
        many = kept_as_is(self, most_held, SECONDS, guard=TURNS, most=9)
        self.assertEqual(most_held(most=9, guard=TURNS, program=SECONDS), many)
        thing = [found[1]]
        self.assertIsNone(kept_as_is(self, leads, SECONDS, thing, guard=TURNS))

    def test_tuples_all_through(self):
        hash((stands(PAIR), leads(PAIR, stands(PAIR)[-1]), most_held(PAIR)))
        self.assertIs(type(most_held(PAIR)[0]), int)
        for history in (most_held(PAIR)[1], leads(PAIR, stands(PAIR)[-1])):
            for number in [number for deed in history for number in deed[1:]]:
                self.assertIs(type(number), int)
                self.assertLess(abs(number), 10 ** 60)


if __name__ == "__main__":
    unittest.main()
