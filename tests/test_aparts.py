import inspect
import itertools
import random
import unittest

from stilltold.aparts import alike, apart, shows_alike
from stilltold.errors import NoPair
from stilltold.likeness import table
from stilltold.runs import Run, is_history, told
from stilltold.shadows import first_shadow
from stilltold.stairs import first_stair, stair_of
from tests.helper import (ANYTHING, ECHO, GREATEST, HUGE, JUDGED, LAST, MIDDLE, NOTHING, ORDER, PAIR, PATIENT,
                          SECONDS, TURNS, TWINS, Judges, Plain, any_deeds, any_guard, any_history, any_program,
                          end_of, kept_as_is, low_and_high, nearly, notes_of, other_deeds, same_telling, shadow_at,
                          turned_about, with_idle_cell)

NUMBERS = (-HUGE, -2, -1, 0, 1, 1, 1, 2, HUGE)

# Tells the greatest, too, but of none nothing: it is in another mode until something came.
SHY = (("top",), GREATEST[1],
       (((1, (("came", 0),), None), (0, (None,), None)),
        ((1, (("greatest", (("cell", "top"), ("came", 0))),), None), (1, (None,), ("cell", "top")))))


class Sides:
    """Two programs behind histories of theirs, done on by Runs from one at that is above all notes."""

    def __init__(self, plain, history, its):
        self.plain, self.guard = plain, plain.guard
        self.at = max(len(history), len(its))
        self.ends = [end_of(plain.one, history, self.guard), end_of(plain.other, its, self.guard)]
        self.stairs = [stair_of(plain.one, history, guard=self.guard), stair_of(plain.other, its, guard=self.guard)]
        self.bars = sorted(set(notes_of(history) + notes_of(its))) + [None]
        self.notes = sorted(set(self.stairs[0][1] + self.stairs[1][1]))

    def alike(self):
        """Whether under all bars both are like."""
        return all((shadow_at(self.ends[0], bar), shadow_at(self.ends[1], bar)) in self.plain.like for bar in self.bars)

    def parts(self, going):
        """Whether the last deed of the going on, and none ahead, is let from just one or answered otherwise."""
        programs = (self.plain.one, self.plain.other)
        runs = [Run(program, mode=mode, held=held, at=self.at) for program, (place, mode, held)
                in zip(programs, self.ends)]
        places = [end[0] for end in self.ends]
        names = [called for called, many in self.plain.one[1]]
        for at, deed in enumerate(going):
            last = at == len(going) - 1
            behind = [0 if self.guard is None else self.guard[place][names.index(deed[0])] for place in places]
            if None in behind:
                return last and behind != [None, None]
            answers = [run.do(deed) for run in runs]
            if answers[0] != answers[1]:
                return last
            places = behind
        return False

    def some(self, many, numbers):
        """All rows of so many deeds by these rising numbers, rising."""
        deeds = sorted((called,) + row for called, brings in self.plain.one[1]
                       for row in itertools.product(numbers, repeat=brings))
        return itertools.product(deeds, repeat=many)

    def first_parting(self, most, numbers):
        for many in range(1, most + 1):
            for going in self.some(many, numbers):
                if self.parts(going):
                    return going
        return None


class Apart(unittest.TestCase):
    def follow(self, plain, history, its, most=2):
        """Apart behind two histories, against a plain going through of short goings on."""
        sides = Sides(plain, history, its)
        numbers = low_and_high(sides.notes)
        going = apart(plain.one, sides.stairs[0], plain.other, sides.stairs[1], guard=plain.guard)
        self.assertEqual(going is None, sides.alike())
        if going is None:
            self.assertIsNone(sides.first_parting(most - 1, numbers))
            return None
        self.assertTrue({number for deed in going for number in deed[1:]} <= set(numbers))
        self.assertTrue(sides.parts(going), (history, its, going))
        self.assertTrue(self.parts_first(plain, sides, going, numbers))
        # A shortest one: no shorter one parts, not by other numbers either, which lie among the notes.
        near = sorted({number + step for number, at, place in sides.notes for step in (0, 1)})[:3] or [0, 1]
        self.assertIsNone(sides.first_parting(min(most, len(going) - 1), near))
        self.assertIsNone(sides.first_parting(min(most, len(going) - 1), numbers))
        return going

    def parts_first(self, plain, sides, going, numbers):
        """Whether it is the least of the rows of bit deeds that part both's shadows in one of the parts."""
        row = tuple((deed[0],) + tuple(numbers.index(number) for number in deed[1:]) for deed in going)
        rows = []
        for bar in sides.notes + [None]:
            pair = [shadow_at(end, bar) for end in sides.ends]
            rows += [found for found in [plain.first_parting(*pair, len(row))] if found is not None]
        return min(rows, key=lambda found: (len(found), found)) == row

    def test_by_hand(self):
        for one, history, other, its, told_so in (
                (GREATEST, (("top", 5),), GREATEST, (("top", 5),), None),
                (GREATEST, (("top", 5),), GREATEST, (("top", 5), ("top", 3)), None),
                (GREATEST, (("top", 5),), GREATEST, (("top", 3), ("top", 5)), (("ask",),)),
                (GREATEST, (("top", 5),), LAST, (("top", 5),), (("top", 4), ("ask",))),
                (GREATEST, (), LAST, (), (("top", 1), ("top", 0), ("ask",))),
                (GREATEST, (), SHY, (), (("ask",),)),
                (GREATEST, (("top", 1),), SHY, (("top", 1),), None),
                (SECONDS, (("push", 5), ("push", 3)), SECONDS, (("push", 7), ("push", 3)), (("push", 8), ("ask",))),
                (SECONDS, (("push", -5),), SECONDS, (), (("push", -4), ("ask",)))):
            self.assertEqual(apart(one, stair_of(one, history), other, stair_of(other, its)), told_so)

    def test_numbers_of_both_stairs(self):
        # Low and high are those of the notes of both together, not of one of them alone.
        going = apart(SECONDS, stair_of(SECONDS, (("push", 50),)), SECONDS, stair_of(SECONDS, (("push", -9),)))
        self.assertEqual(going, (("push", 51), ("ask",)))
        going = apart(SECONDS, stair_of(SECONDS, (("push", -9),)), SECONDS, stair_of(SECONDS, (("push", 50),)))
        self.assertEqual(going, (("push", 51), ("ask",)))
        wait = (("a",), (("x", 1),), (((1, (("came", 0),), None),), ((0, (None,), ("cell", "a")),)))
        going = apart(wait, stair_of(wait, (("x", 50),)), wait, stair_of(wait, (("x", -9),)))
        self.assertEqual(going, (("x", -10),))

    def test_the_shortest_of_all_parts(self):
        # Above 3 a row of two deeds parts them, which begins with a; above 5 b alone does.
        program = (("x", "y"), (("put", 2), ("a", 0), ("b", 0)),
                   (((0, (("came", 0), ("came", 1)), None), (0, (("cell", "y"), None), None),
                     (0, (None, None), ("cell", "x"))),))
        stairs = [stair_of(program, history) for history in ((("put", 5, 3),), (("put", 9, 4),), (("put", 5, 4),))]
        self.assertEqual(apart(program, stairs[0], program, stairs[2]), (("a",), ("b",)))
        self.assertEqual(apart(program, stairs[0], program, stairs[1]), (("b",),))
        plain = Plain(program, program)
        histories = list(itertools.product([("put", 1, 2), ("put", 2, 1), ("put", 1, 1), ("a",), ("b",)], repeat=2))
        for history, its in itertools.product(histories, histories):
            self.follow(plain, history, its)

    def test_equal_numbers_are_other_notes(self):
        stairs = [stair_of(GREATEST, history) for history in ((("top", 5), ("ask",)), (("ask",), ("top", 5)))]
        self.assertEqual(apart(GREATEST, stairs[0], GREATEST, stairs[1]), (("ask",),))

    def test_a_deed_let_from_just_one(self):
        stairs = [stair_of(SECONDS, history, guard=TURNS)
                  for history in ((), (("push", 5),), (("push", 5), ("push", 5)))]
        self.assertEqual(apart(SECONDS, stairs[0], SECONDS, stairs[2], guard=TURNS), (("ask",),))
        self.assertEqual(apart(SECONDS, stairs[2], SECONDS, stairs[1], guard=TURNS), (("ask",),))
        self.assertEqual(apart(SECONDS, stairs[0], SECONDS, stairs[1], guard=TURNS), (("push", 4), ("ask",)))

    def test_of_one_program_behind_short_histories(self):
        for program, deeds, many in ((SECONDS, [("push", 1), ("push", 2), ("ask",), ("clear",)], 2),
                                     (GREATEST, [("top", 1), ("top", 2), ("ask",)], 3),
                                     (PAIR, [("put", 1, 1), ("put", 2, 1), ("turn",), ("one", 1)], 2),
                                     (PATIENT, [("go", 1), ("go", 2)], 3)):
            plain = Plain(program, program)
            histories = [row for length in range(many + 1) for row in itertools.product(deeds, repeat=length)]
            found = [self.follow(plain, history, its, 2) for history in histories for its in histories[::3]]
            self.assertIn(None, found)
            self.assertGreater(len(set(found)), 1)

    def test_of_programs_that_tell_the_same(self):
        chance = random.Random(94)
        for program in JUDGED:
            for other in same_telling(program):
                plain = Plain(program, other)
                history = any_history(chance, program, 6, numbers=NUMBERS)
                self.assertIsNone(self.follow(plain, history, history))
                self.follow(plain, history, any_history(chance, program, 6, numbers=NUMBERS))

    def test_of_two_programs(self):
        chance = random.Random(95)
        for one, other in ((GREATEST, LAST), (LAST, GREATEST), (GREATEST, SHY), (SHY, LAST)):
            plain = Plain(one, other)
            for times in range(20):
                history = any_history(chance, one, chance.randint(0, 3), numbers=NUMBERS)
                its = chance.choice((history, any_history(chance, one, chance.randint(0, 3), numbers=NUMBERS)))
                self.follow(plain, history, its, 3)

    def test_with_guards(self):
        chance = random.Random(96)
        for program, guard in ((PAIR, ((0, 1, 1), (None, 0, 1))), (SECONDS, TURNS), (SECONDS, TWINS),
                               (MIDDLE, ((1, None), (2, 0), (None, 0)))):
            for other in (program, turned_about(program)):
                plain = Plain(program, other, guard)
                for times in range(12):
                    history = any_history(chance, program, chance.randint(0, 5), guard)
                    self.follow(plain, history, any_history(chance, program, chance.randint(0, 5), guard))
                    self.follow(plain, history, history)

    def test_by_chance(self):
        chance = random.Random(97)
        for turn in range(100):
            deeds = any_deeds(chance, 2)
            one = any_program(chance, deeds, 2)
            other = chance.choice((one, turned_about(one), any_program(chance, deeds, 2)))
            guard = chance.choice((None, any_guard(chance, deeds)))
            history = any_history(chance, one, chance.randint(0, 3), guard)
            its = chance.choice((history, any_history(chance, one, chance.randint(0, 3), guard)))
            self.follow(Plain(one, other, guard), history, its)

    def test_no_pair_ahead_of_all(self):
        for one, other in other_deeds():
            self.assertRaises(NoPair, apart, one, first_stair(one), other, first_stair(other))
            for thing in ANYTHING:
                self.assertRaises(NoPair, apart, one, thing, other, thing)
                self.assertRaises(NoPair, apart, one, thing, other, thing, guard=thing)


class Alike(unittest.TestCase):
    def follow(self, one, other, guard=None, most=2):
        plain = Plain(one, other, guard)
        history = alike(one, other, guard=guard)
        first = (first_shadow(one), first_shadow(other))
        self.assertEqual(history is None, first in plain.like)
        stairs = [first_stair(program, guard=guard) for program in (one, other)]
        self.assertEqual(history, apart(one, stairs[0], other, stairs[1], guard=guard))
        if history is not None:
            self.assertTrue({number for deed in history for number in deed[1:]} <= {0, 1})
            self.assertTrue(is_history(one, history, guard=guard))
            answers = [told(program, history) for program in (one, other)]
            self.assertEqual(answers[0][:-1], answers[1][:-1])
            self.assertNotEqual(answers[0][-1], answers[1][-1])
            self.assertIsNone(Sides(plain, (), ()).first_parting(min(most, len(history) - 1), (-1, 0, 1)))
        return history

    def test_by_hand(self):
        self.assertEqual(alike(GREATEST, LAST), (("top", 1), ("top", 0), ("ask",)))
        self.assertEqual(alike(GREATEST, SHY), (("ask",),))
        self.assertIsNone(alike(GREATEST, with_idle_cell(GREATEST)))
        self.assertIsNone(alike(GREATEST, LAST, guard=((1, None), (None, 1))))
        self.assertIsNone(alike(GREATEST, SHY, guard=((1, None), (None, 1))))
        self.assertIsNone(alike(NOTHING, NOTHING))
        second = (ECHO[0], ECHO[1], ECHO[2][::-1])
        # The least of the rows of bit deeds, though two equal numbers, being two notes, would part them too.
        self.assertEqual(alike(ECHO, second), (("say", 0, 1),))

    def test_of_programs_that_tell_the_same(self):
        for program, guard in [(program, None) for program in JUDGED] + [(PAIR, ORDER), (SECONDS, TURNS)]:
            for other in same_telling(program):
                self.assertIsNone(self.follow(program, other, guard))
                self.assertIsNone(self.follow(other, program, guard))

    def test_of_programs_that_tell_otherwise(self):
        for one, other in itertools.permutations((GREATEST, LAST, SHY), 2):
            self.assertIsNotNone(self.follow(one, other))
            self.follow(one, other, ((1, 1), (1, 0)))

    def test_by_chance(self):
        chance = random.Random(98)
        for turn in range(150):
            deeds = any_deeds(chance, 2)
            one, other = any_program(chance, deeds, 2), any_program(chance, deeds, 2)
            self.follow(one, other, chance.choice((None, any_guard(chance, deeds))))

    def test_no_pair(self):
        for one, other in other_deeds():
            self.assertRaises(NoPair, alike, one, other)
            for thing in ANYTHING:
                self.assertRaises(NoPair, alike, one, other, guard=thing)


class ShowsAlike(Judges, unittest.TestCase):
    CASES = ((GREATEST, GREATEST, None), (GREATEST, with_idle_cell(GREATEST), None), (NOTHING, NOTHING, None),
             (PAIR, turned_about(PAIR), ORDER), (SECONDS, turned_about(SECONDS), TURNS), (GREATEST, LAST, None),
             (GREATEST, LAST, ((1, None), (None, 1))))

    def look(self, plain, thing):
        first = (first_shadow(plain.one), first_shadow(plain.other))
        right = plain.is_table(thing) and first in thing
        self.assertIs(shows_alike(plain.one, plain.other, thing, guard=plain.guard), right, thing)
        return right

    def test_least_tables(self):
        for one, other, guard in self.CASES:
            found = table(one, first_shadow(one), other, first_shadow(other), guard=guard)
            self.assertEqual(found is None, alike(one, other, guard=guard) is not None)
            if found is not None:
                self.yes(shows_alike, one, other, found, guard=guard)

    def test_tables_with_and_without_the_pair(self):
        without = 0
        for one, other, guard in self.CASES:
            plain = Plain(one, other, guard)
            first = (first_shadow(one), first_shadow(other))
            least = plain.led_to(first) if first in plain.like else ()
            for pair in sorted(plain.like):
                without += not self.look(plain, plain.led_to(pair))
                self.look(plain, tuple(sorted(set(plain.led_to(pair) + least))))
            self.look(plain, tuple(sorted(plain.like)))
            self.no(shows_alike, one, other, (), guard=guard)
        self.assertGreater(without, 5)

    def test_spoilt_tables(self):
        for one, other, guard in self.CASES:
            plain = Plain(one, other, guard)
            found = table(one, first_shadow(one), other, first_shadow(other), guard=guard) or ()
            for thing in nearly(found[:6]):
                self.look(plain, thing)
            for at in range(len(found)):
                self.look(plain, found[:at] + found[at + 1:])
                self.look(plain, found[:at + 1] + found[at:])
            self.look(plain, found[::-1])
            self.look(plain, tuple(pair[::-1] for pair in found))

    def test_of_anything(self):
        for one, other, guard in self.CASES:
            plain = Plain(one, other, guard)
            pair = (first_shadow(one), first_shadow(other))
            for thing in ANYTHING:
                for wrapped in (thing, (thing,), [pair], (pair, thing), (thing, pair), ((pair[0], thing),)):
                    self.look(plain, wrapped)

    def test_no_pair(self):
        for one, other in other_deeds():
            for thing in ANYTHING:
                self.assertRaises(NoPair, shows_alike, one, other, thing)
                self.assertRaises(NoPair, shows_alike, one, other, thing, guard=thing)


class Handed(unittest.TestCase):
    def test_names(self):
        for function, names in ((apart, ["one", "stair", "other", "its", "guard"]), (alike, ["one", "other", "guard"]),
                                (shows_alike, ["one", "other", "thing", "guard"])):
            self.assertEqual(list(inspect.signature(function).parameters), names)
            self.assertEqual(inspect.signature(function).parameters["guard"].kind, inspect.Parameter.KEYWORD_ONLY)
            self.assertIsNone(inspect.signature(function).parameters["guard"].default)

    def test_by_names_and_asked_again(self):
        stairs = [stair_of(SECONDS, history, guard=TURNS) for history in ((), (("push", 5), ("push", 5)))]
        going = kept_as_is(self, apart, SECONDS, stairs[0], SECONDS, stairs[1], guard=TURNS)
        self.assertEqual(apart(guard=TURNS, its=stairs[1], other=SECONDS, stair=stairs[0], one=SECONDS), going)
        free = ((1, None), (None, 1))
        self.assertIsNone(kept_as_is(self, alike, GREATEST, LAST, guard=free))
        self.assertIsNone(alike(guard=free, other=LAST, one=GREATEST))
        found = table(GREATEST, (0, 0, (0,)), LAST, (0, 0, (0,)), guard=free)
        self.assertIs(kept_as_is(self, shows_alike, GREATEST, LAST, found, guard=free), True)
        self.assertIs(shows_alike(guard=free, thing=found, other=LAST, one=GREATEST), True)
        self.assertIs(shows_alike(GREATEST, LAST, found), False)


if __name__ == "__main__":
    unittest.main()
