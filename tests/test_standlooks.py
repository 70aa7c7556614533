import inspect
import random
import unittest

from stilltold.stairs import first_stair
from stilltold.standing import stands
from stilltold.standlooks import shows_stands
from tests.helper import (ANYTHING, BOTH_ENDS, ECHO, GREATEST, JUDGED, MIDDLE, NOTHING, ONCE, ORDER, PAIR, PATIENT,
                          SECONDS, TURNS, TWINS, Judges, Plain, any_deeds, any_guard, any_program, best, falling_out,
                          judged_shadow, kept_as_is, nearly, rows_behind, same_telling, shut_by_words,
                          with_modes_twice)

GUARDED = ((PAIR, ORDER), (SECONDS, TURNS), (SECONDS, TWINS), (GREATEST, ONCE), (PAIR, ((0, 1, 1), (None, 0, 1))),
           (BOTH_ENDS, ((0, 1, None), (None, 0, 1))))


class Looks(Judges, unittest.TestCase):
    def may_stand(self, plain, row):
        """Whether it is a row of shadows, each its own least like, that let the same, no neighbours the same."""
        if type(row) is not tuple or not row:
            return False
        if not all(judged_shadow(plain.one, shadow, plain.places) for shadow in row):
            return False
        if any(plain.least_like(shadow) != shadow for shadow in row):
            return False
        let = {tuple(move == "NotLet" for move in plain.moves[0][shadow]) for shadow in row}
        return len(let) == 1 and all(one != other for one, other in zip(row, row[1:]))

    def judged(self, plain, thing):
        """Whether it shows all stands, by the document's words."""
        if type(thing) is not tuple or not all(self.may_stand(plain, row) for row in thing):
            return False
        if list(thing) != sorted(set(thing)) or ((0, 0, (0,) * len(plain.one[0])),) not in thing:
            return False
        return all(rows_behind(plain, row) <= set(thing) for row in thing)

    def look(self, plain, thing):
        told = shows_stands(plain.one, thing, guard=plain.guard)
        self.assertIs(told, self.judged(plain, thing), thing)
        return told

    def lots(self, chance, plain, tries=6):
        """The stands with rows that may stand put among them, whatever leads to these, and all behind them."""
        own = [shadow for shadow in plain.moves[0] if plain.least_like(shadow) == shadow]
        rows = [tuple(chance.choice(own) for at in range(chance.randint(1, 3))) for times in range(tries)]
        rows = [row for row in rows if self.may_stand(plain, row)]
        return tuple(sorted(shut_by_words(plain, [first_stair(plain.one)[0]] + rows)))


class Right(Looks):
    def test_of_programs(self):
        for program in JUDGED + (BOTH_ENDS, best(3), best(5), falling_out(3), falling_out(5)):
            self.yes(shows_stands, program, stands(program))
            for other in same_telling(program):
                if 2 ** len(other[0]) * len(other[2]) <= 32:
                    self.yes(shows_stands, other, stands(other))

    def test_with_guards(self):
        for program, guard in GUARDED:
            self.yes(shows_stands, program, stands(program, guard=guard), guard=guard)

    def test_by_hand(self):
        none, one = ((0, 0, (0,)),), ((0, 0, (1,)), (0, 0, (0,)))
        self.yes(shows_stands, GREATEST, (none, one))
        self.no(shows_stands, GREATEST, (one, none))
        self.no(shows_stands, GREATEST, (none,))
        self.no(shows_stands, GREATEST, (one,))
        self.no(shows_stands, GREATEST, ())
        self.yes(shows_stands, NOTHING, (((0, 0, ()),),))
        self.yes(shows_stands, GREATEST, (none,), guard=((0, None),))

    def test_lots_that_are_greater(self):
        # No bar is above all notes here, or the notes lie the other way round: no history leads to such rows.
        none, one, full = ((0, 0, (0,)),), ((0, 0, (1,)), (0, 0, (0,))), ((0, 0, (1,)),)
        self.yes(shows_stands, GREATEST, (none, full, one))
        self.assertTrue(self.look(Plain(GREATEST, GREATEST), tuple(sorted((none, one, full)))))
        turned = ((0, 0, (0,)), (0, 0, (1,)))
        lots = tuple(sorted(shut_by_words(Plain(GREATEST, GREATEST), [none, turned])))
        self.assertIn(turned, lots)
        self.yes(shows_stands, GREATEST, lots)
        for row in lots:
            self.look(Plain(GREATEST, GREATEST), tuple(other for other in lots if other != row))


class Shut(Looks):
    def test_one_row_left_out(self):
        for program, guard in [(program, None) for program in JUDGED + (BOTH_ENDS,)] + list(GUARDED):
            found = stands(program, guard=guard)
            for at in range(len(found)):
                self.no(shows_stands, program, found[:at] + found[at + 1:], guard=guard)

    def test_greater_lots_by_chance(self):
        chance = random.Random(211)
        many = {True: 0, False: 0}
        for program, guard in [(program, None) for program in (GREATEST, SECONDS, PATIENT, ECHO)] + list(GUARDED[1:4]):
            plain = Plain(program, program, guard)
            for times in range(6):
                lots = self.lots(chance, plain, 3)
                many[self.look(plain, lots)] += 1
                at = chance.randrange(len(lots))
                many[self.look(plain, lots[:at] + lots[at + 1:])] += 1
        self.assertGreater(min(many.values()), 20)

    def test_programs_by_chance(self):
        chance = random.Random(212)
        for turn in range(40):
            program = any_program(chance, any_deeds(chance, 2), 2)
            guard = chance.choice((None, any_guard(chance, program[1])))
            plain = Plain(program, program, guard)
            found = stands(program, guard=guard)
            self.assertTrue(self.look(plain, found))
            if len(found) < 20:
                lots = self.lots(chance, plain, 2)
                self.look(plain, lots)
                at = chance.randrange(len(lots))
                self.look(plain, lots[:at] + lots[at + 1:])

    def test_whatever_is_answered(self):
        # In one mode nothing is told and in the other one something: no stair has shadows of both, but a row may.
        program = ((), (("x", 0),), (((0, (), None),), ((1, (), ("none",)),)))
        none, other = ((0, 0, ()),), ((0, 0, ()), (0, 1, ()))
        self.yes(shows_stands, program, (none, other))
        self.yes(shows_stands, program, (none, other, ((0, 1, ()), (0, 0, ()), (0, 1, ()))))

    def test_either_of_two_in_one_gap_may_be_above(self):
        held = (("cell", "a"), ("cell", "b"))
        program = (("a", "b"), (("x", 2),), (((0, (("came", 0), ("came", 1)), ("greatest", held)),),))
        found = stands(program)
        self.assertTrue(self.look(Plain(program, program), found))
        for at in range(len(found)):
            self.no(shows_stands, program, found[:at] + found[at + 1:])


class Wrong(Looks):
    def test_anything(self):
        for program, guard in ((GREATEST, None), (PAIR, ORDER), (NOTHING, None), (MIDDLE, None)):
            for thing in ANYTHING:
                self.no(shows_stands, program, thing, guard=guard)
                self.no(shows_stands, program, (thing,), guard=guard)
                self.no(shows_stands, program, ((thing,),), guard=guard)
                self.no(shows_stands, program, (((0, 0, (0,) * len(program[0])),), thing), guard=guard)

    def test_nearly(self):
        for program, guard in ((GREATEST, None), (ECHO, None), (GREATEST, ONCE), (SECONDS, TURNS), (SECONDS, TWINS)):
            plain = Plain(program, program, guard)
            for thing in nearly(stands(program, guard=guard)):
                self.look(plain, thing)

    def test_twice_and_exchanged(self):
        for program in (MIDDLE, PAIR, PATIENT):
            found = stands(program)
            self.no(shows_stands, program, found + found[-1:])
            self.no(shows_stands, program, found[:1] + found)
            self.no(shows_stands, program, found[::-1])
            self.no(shows_stands, program, found[1:] + found[:1])
            self.no(shows_stands, program, list(found))
            self.no(shows_stands, program, tuple(list(row) for row in found))
            self.no(shows_stands, program, tuple(tuple(list(shadow) for shadow in row) for row in found))

    def test_no_row_without_shadows(self):
        for program in (GREATEST, NOTHING):
            self.no(shows_stands, program, ((),) + stands(program))

    def test_a_shadow_twice(self):
        none, one = ((0, 0, (0,)),), ((0, 0, (1,)), (0, 0, (0,)))
        self.no(shows_stands, GREATEST, (none, none * 2, one))
        self.no(shows_stands, GREATEST, tuple(sorted((none, one, ((0, 0, (1,)), (0, 0, (1,)), (0, 0, (0,)))))))

    def test_a_shadow_that_is_not_its_own_least_like(self):
        program = with_modes_twice(GREATEST)
        found = stands(program)
        self.yes(shows_stands, program, found)
        self.no(shows_stands, program, tuple(sorted(found + (((0, 1, (0,)),),))))
        self.no(shows_stands, program, tuple(sorted(found + (((0, 1, (1,)), (0, 1, (0,))),))))

    def test_rows_whose_shadows_do_not_let_the_same(self):
        program = ((), (("x", 0), ("y", 0)), (((0, (), None), (0, (), None)),))
        guard = ((0, None), (None, 1))
        self.yes(shows_stands, program, (((0, 0, ()),),), guard=guard)
        self.yes(shows_stands, program, (((0, 0, ()),), ((1, 0, ()),)), guard=guard)
        # Nothing is let from both, so that nothing leads out of these rows, but they let not the same.
        self.no(shows_stands, program, (((0, 0, ()),), ((0, 0, ()), (1, 0, ()))), guard=guard)
        self.no(shows_stands, program, (((0, 0, ()),), ((0, 0, ()), (1, 0, ())), ((1, 0, ()),)), guard=guard)
        # The same with some that both let.
        guard = ((0, 0), (1, None))
        self.no(shows_stands, program, (((0, 0, ()),), ((0, 0, ()), (1, 0, ()))), guard=guard)
        self.no(shows_stands, program, (((0, 0, ()),), ((1, 0, ()), (0, 0, ()))), guard=guard)

    def test_of_another_program_or_guard(self):
        self.no(shows_stands, MIDDLE, stands(GREATEST))
        self.no(shows_stands, SECONDS, stands(SECONDS, guard=TURNS))
        self.no(shows_stands, SECONDS, stands(SECONDS), guard=TURNS)
        self.no(shows_stands, GREATEST, stands(GREATEST, guard=((0, None),)))

    def test_truths_in_the_places_of_numbers(self):
        for row in (((False, 0, (0,)),), ((0, False, (0,)),), ((0, 0, (False,)),)):
            self.no(shows_stands, GREATEST, (row,) + stands(GREATEST)[1:])
        self.no(shows_stands, GREATEST, stands(GREATEST)[:1] + (((0, 0, (True,)), (0, 0, (0,))),))


class Handed(unittest.TestCase):
    def test_names(self):
        parameters = inspect.signature(shows_stands).parameters
        self.assertEqual(list(parameters), ["program", "thing", "guard"])
        self.assertEqual(parameters["guard"].kind, inspect.Parameter.KEYWORD_ONLY)
        self.assertIsNone(parameters["guard"].default)

    def test_by_names_and_asked_again(self):
        found = stands(SECONDS, guard=TURNS)
        self.assertIs(kept_as_is(self, shows_stands, SECONDS, found, guard=TURNS), True)
        self.assertIs(shows_stands(guard=TURNS, thing=found, program=SECONDS), True)
        thing = [list(found)]
        self.assertIs(kept_as_is(self, shows_stands, SECONDS, thing, guard=TURNS), False)


if __name__ == "__main__":
    unittest.main()
