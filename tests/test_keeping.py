import inspect
import random
import unittest

from stilltold.errors import NoDeed, NoPair, NoPlace, NothingDone, NotLet
from stilltold.keeping import Keeper
from stilltold.placing import in_place
from stilltold.runs import Run
from stilltold.stairs import first_stair, stair_of
from tests.helper import (ANYTHING, ECHO, GREATEST, HUGE, JUDGED, LAST, MIDDLE, NOTHING, OLD, ONCE, ORDER, PAIR,
                          PATIENT, SECONDS, TURNS, TWINS, Plain, any_deeds, any_guard, any_history, any_program,
                          other_deeds, same_telling, shadow_at, turned_about, with_idle_cell, with_modes_twice)

NUMBERS = (-HUGE, -2, -1, 0, 1, 1, 1, 2, HUGE)
GUARDED = ((PAIR, ((0, 1, 1), (None, 0, 1))), (SECONDS, TURNS), (SECONDS, TWINS),
           (MIDDLE, ((1, None), (2, 0), (None, 0))))


def state(keeper):
    """All that can be asked of a keeper."""
    return keeper.stair(), keeper.at(), keeper.held(), keeper.program(), len(keeper)


class Keepers(unittest.TestCase):
    def look(self, keeper, program, stair, at):
        """That it is so, whatever it is asked, and asked again."""
        for times in range(2):
            self.assertEqual(state(keeper), (stair, at, stair[1], program, len(stair[1])))

    def follow(self, program, history, guard=None, keep=True):
        """A keeper and a Run side by side."""
        keeper, run = Keeper(program, guard=guard, keep=keep), Run(program)
        self.look(keeper, program, first_stair(program, guard=guard), 0)
        for at, deed in enumerate(history):
            answer = run.do(deed)
            told = keeper.do(deed)
            self.assertEqual(told, answer)
            self.assertIs(told is None, answer is None)
            self.look(keeper, program, stair_of(program, history[:at + 1], guard=guard), at + 1)
        return keeper

    def refused(self, keeper, error, function, *given):
        """That it is refused, and nothing is changed."""
        before = state(keeper)
        with self.assertRaises(error) as caught:
            function(*given)
        self.assertIs(type(caught.exception), error)
        self.assertEqual(state(keeper), before)
        return caught.exception


class ByHand(Keepers):
    def test_greatest(self):
        keeper = Keeper(GREATEST)
        self.assertEqual(state(keeper), ((((0, 0, (0,)),), ()), 0, (), GREATEST, 0))
        self.assertEqual(keeper.do(("ask",)), ())
        self.assertIsNone(keeper.do(("top", 5)))
        self.assertIsNone(keeper.do(("top", 3)))
        self.assertEqual(keeper.do(("ask",)), (5, 1, 0))
        stair = (((0, 0, (1,)), (0, 0, (0,))), ((5, 1, 0),))
        self.assertEqual(state(keeper), (stair, 4, ((5, 1, 0),), GREATEST, 1))
        self.assertIsNone(keeper.do(("top", 5)))
        self.assertEqual(keeper.held(), ((5, 4, 0),))

    def test_two_numbers_in_one_deed(self):
        keeper = Keeper(PAIR)
        self.assertEqual(keeper.do(("put", -HUGE, -HUGE)), (-HUGE, 0, 1))
        self.assertEqual(keeper.held(), ((-HUGE, 0, 0), (-HUGE, 0, 1)))
        self.assertEqual(len(keeper), 2)

    def test_none_and_nothing(self):
        keeper = Keeper(PAIR)
        self.assertEqual(keeper.do(("one", 5)), ())
        self.assertIsNone(keeper.do(("turn",)))
        self.assertIsNone(Keeper(NOTHING).do(("ask",)))

    def test_a_note_that_can_not_be_told_is_let_go(self):
        keeper = Keeper(SECONDS, guard=TWINS)
        self.assertIsNone(keeper.do(("push", 5)))
        self.assertEqual(state(keeper), ((((1, 0, (0, 0)),), ()), 1, (), SECONDS, 0))

    def test_put(self):
        keeper = Keeper(GREATEST, guard=ONCE)
        keeper.do(("top", 5))
        self.assertEqual(keeper.put(OLD), (1, ((5, 0, 0),)))
        self.assertEqual(state(keeper), ((((1, 1, (1,)), (1, 0, (0,))), ((5, 0, 0),)), 1, ((5, 0, 0),), OLD, 1))
        self.assertEqual(keeper.do(("ask",)), (5, 0, 0))
        self.assertEqual(keeper.put(LAST), (0, ((5, 0, 0),)))
        self.assertEqual(keeper.do(("ask",)), (5, 0, 0))
        self.assertEqual(keeper.program(), LAST)
        self.assertEqual(keeper.at(), 3)

    def test_put_ahead_of_all_deeds(self):
        keeper = Keeper(SECONDS)
        self.assertEqual(keeper.put(with_idle_cell(SECONDS)), (0, ((), (), ())))
        self.look(keeper, with_idle_cell(SECONDS), (((0, 0, (0, 0, 0)),), ()), 0)

    def test_put_where_another_mode_goes_on(self):
        keeper = Keeper(PATIENT)
        for number in (5, 6):
            keeper.do(("go", number))
        self.assertEqual(keeper.put(PATIENT), (2, ((5, 0, 0),)))


class BesideRuns(Keepers):
    def test_of_programs(self):
        chance = random.Random(161)
        for program in JUDGED + (LAST, OLD):
            for times in range(4):
                self.follow(program, any_history(chance, program, 12, numbers=NUMBERS))

    def test_with_guards(self):
        chance = random.Random(162)
        for program, guard in GUARDED:
            for times in range(4):
                self.follow(program, any_history(chance, program, 12, guard, numbers=NUMBERS), guard)
        self.follow(PAIR, (("put", 3, 3), ("turn",), ("turn",), ("turn",), ("one", 3)), ORDER)

    def test_of_programs_by_chance(self):
        chance = random.Random(163)
        for turn in range(60):
            program = any_program(chance, any_deeds(chance, 3), 3)
            guard = chance.choice((None, any_guard(chance, program[1])))
            self.follow(program, any_history(chance, program, 8, guard, numbers=range(-2, 3)), guard,
                        chance.choice((True, False)))

    def test_long_rows_of_deeds(self):
        chance = random.Random(164)
        for program, guard in GUARDED + tuple((program, None) for program in JUDGED):
            history = any_history(chance, program, 300, guard, numbers=NUMBERS + tuple(range(-20, 20)))
            keeper, run = Keeper(program, guard=guard), Run(program)
            for deed in history:
                self.assertEqual(keeper.do(deed), run.do(deed))
            self.look(keeper, program, stair_of(program, history, guard=guard), 300)

    def test_no_more_is_held_than_cells_hold(self):
        chance = random.Random(165)
        keeper, run = Keeper(MIDDLE), Run(MIDDLE)
        for deed in any_history(chance, MIDDLE, 40):
            keeper.do(deed), run.do(deed)
            self.assertLessEqual(set(keeper.held()), set(run.held()))


class Refused(Keepers):
    def test_no_deed(self):
        for program, guard, ahead in ((SECONDS, None, ()), (SECONDS, TURNS, ()), (SECONDS, TURNS, (("push", 1),)),
                                      (PAIR, ORDER, (("put", 1, 2), ("one", 3))), (ECHO, None, ()),
                                      (NOTHING, ((None,),), ())):
            keeper = self.follow(program, ahead, guard)
            for thing in ANYTHING + (("push",), ("push", 1, 2), ("push", True), ("push", None), ("pull", 1), ["ask"],
                                     ("ask", 0), ("put", 1), ("say", 1), (("ask",),)):
                self.assertIs(self.refused(keeper, NoDeed, keeper.do, thing).deed, thing)

    def test_not_let(self):
        keeper = Keeper(SECONDS, guard=TURNS)
        for at, deed in enumerate((("push", 1), ("push", 2), ("ask",), ("ask",), ("clear",), ("push", 3))):
            for wrong in (("push", 7), ("ask",), ("clear",)):
                if wrong[0] != deed[0] and not (at in (2, 3, 4) and wrong[0] != "push"):
                    self.assertIs(self.refused(keeper, NotLet, keeper.do, wrong).deed, wrong)
            keeper.do(deed)

    def test_behind_a_place_that_lets_nothing(self):
        keeper = self.follow(PAIR, (("put", 1, 2), ("one", 3)), ORDER)
        for deed in (("put", 1, 2), ("turn",), ("one", 3)):
            self.assertIs(self.refused(keeper, NotLet, keeper.do, deed).deed, deed)

    def test_what_was_refused_is_nothing_to_take_back(self):
        keeper = Keeper(SECONDS, guard=TURNS)
        for function, thing in ((keeper.do, None), (keeper.do, ("ask",)), (keeper.put, GREATEST)):
            with self.assertRaises((NoDeed, NotLet, NoPair)):
                function(thing)
            self.refused(keeper, NothingDone, keeper.back)
        keeper.do(("push", 1))
        with self.assertRaises(NotLet):
            keeper.do(("ask",))
        keeper.back()
        self.look(keeper, SECONDS, first_stair(SECONDS, guard=TURNS), 0)

    def test_other_deeds(self):
        for one, other in other_deeds():
            keeper = Keeper(one)
            self.refused(keeper, NoPair, keeper.put, other)

    def test_no_place(self):
        keeper = Keeper(GREATEST)
        self.refused(keeper, NoPlace, keeper.put, LAST)
        keeper.do(("top", 5))
        for other in (LAST, OLD):
            self.refused(keeper, NoPlace, keeper.put, other)
        keeper.back()
        self.refused(keeper, NothingDone, keeper.back)

    def test_other_deeds_ahead_of_no_place(self):
        one = (("a",), (("x", 1),), (((0, (("came", 0),), ("cell", "a")),),))
        other = ((), (("y", 1),), (((0, (), None),),))
        keeper = Keeper(one)
        self.refused(keeper, NoPair, keeper.put, other)


class Back(Keepers):
    def test_deed_by_deed(self):
        chance = random.Random(166)
        for program, guard in GUARDED + ((GREATEST, None), (ECHO, None)):
            history = any_history(chance, program, 15, guard)
            keeper, before = Keeper(program, guard=guard), []
            for deed in history:
                before.append(state(keeper))
                keeper.do(deed)
            for was in before[::-1]:
                self.assertIsNone(keeper.back())
                self.assertEqual(state(keeper), was)
            self.refused(keeper, NothingDone, keeper.back)

    def test_deeds_and_puts_by_chance(self):
        chance = random.Random(167)
        for program in (SECONDS, MIDDLE, PAIR):
            others = same_telling(program)
            keeper, before = Keeper(program), []
            for step in range(60):
                turn = chance.random()
                if turn < 0.35 and before:
                    keeper.back()
                    self.assertEqual(state(keeper), before.pop())
                    continue
                before.append(state(keeper))
                if turn < 0.6:
                    keeper.put(chance.choice(others))
                else:
                    keeper.do(any_history(chance, program, 1)[0])

    def test_done_again_otherwise(self):
        keeper = Keeper(MIDDLE)
        for number in (5, 6, 7):
            keeper.do(("push", number))
        keeper.back(), keeper.back()
        keeper.do(("push", 4))
        self.look(keeper, MIDDLE, stair_of(MIDDLE, (("push", 5), ("push", 4))), 2)
        self.assertEqual(keeper.do(("ask",)), (4, 1, 0))

    def test_behind_a_put_deeds_are_the_first_programs_again(self):
        keeper = Keeper(GREATEST, guard=ONCE)
        keeper.do(("top", 5))
        keeper.put(OLD)
        keeper.do(("ask",))
        keeper.back(), keeper.back()
        self.look(keeper, GREATEST, stair_of(GREATEST, (("top", 5),), guard=ONCE), 1)
        keeper.back()
        self.assertIsNone(keeper.do(("top", 7)))
        self.assertEqual(keeper.do(("ask",)), (7, 0, 0))

    def test_nothing_is_kept(self):
        keeper = Keeper(SECONDS, keep=False)
        self.refused(keeper, NothingDone, keeper.back)
        for deed in (("push", 5), ("push", 3), ("ask",)):
            keeper.do(deed)
            self.refused(keeper, NothingDone, keeper.back)
        keeper.put(turned_about(SECONDS))
        self.refused(keeper, NothingDone, keeper.back)


class Put(Keepers):
    def put(self, keeper, other, guard):
        """Put the other, and see that all is as the words say; whether it could be put."""
        stair, at = keeper.stair(), keeper.at()
        moment = in_place(keeper.program(), stair, other, guard=guard)
        if moment is None:
            self.refused(keeper, NoPlace, keeper.put, other)
            return False
        self.assertEqual(keeper.put(other), moment)
        plain = Plain(other, other, guard)
        end = (stair[0][-1][0],) + moment
        shadows = tuple(plain.least_like(shadow_at(end, bar)) for bar in stair[1] + (None,))
        self.look(keeper, other, (shadows, stair[1]), at)
        return True

    def follow_puts(self, chance, program, others, history, guard=None):
        """The history done, others put at times, the first program's own answers being told; how many were put."""
        keeper, run, many = Keeper(program, guard=guard), Run(program), 0
        for at, deed in enumerate(history):
            if chance.random() < 0.5:
                many += self.put(keeper, chance.choice(others), guard)
            self.assertEqual(keeper.do(deed), run.do(deed))
            self.assertEqual(keeper.at(), at + 1)
            self.assertEqual(keeper.held(), stair_of(program, history[:at + 1], guard=guard)[1])
        return many

    def test_programs_that_tell_the_same(self):
        chance = random.Random(168)
        for program in (SECONDS, PAIR, GREATEST, ECHO, NOTHING):
            others = same_telling(program)
            self.assertGreater(self.follow_puts(chance, program, others, any_history(chance, program, 12)), 2)

    def test_with_guards(self):
        chance = random.Random(169)
        for program, guard in GUARDED[:3]:
            others = same_telling(program)
            history = any_history(chance, program, 12, guard, numbers=NUMBERS)
            self.assertGreater(self.follow_puts(chance, program, others, history, guard), 2)

    def test_programs_that_tell_the_same_from_here_on(self):
        chance = random.Random(170)
        many = 0
        for times in range(10):
            for program in (GREATEST, LAST, OLD):
                history = any_history(chance, program, 5, ONCE)
                many += self.follow_puts(chance, program, [GREATEST, LAST, OLD], history, ONCE)
        self.assertGreater(many, 30)

    def test_programs_by_chance(self):
        chance = random.Random(171)
        many = 0
        for turn in range(60):
            deeds = any_deeds(chance, 2)
            program, other = [any_program(chance, deeds, 2) for one in range(2)]
            guard = chance.choice((None, any_guard(chance, deeds)))
            others = [program, other, turned_about(program), with_modes_twice(other)]
            many += self.follow_puts(chance, program, others, any_history(chance, program, 6, guard), guard)
        self.assertGreater(many, 80)

    def test_its_own_place(self):
        chance = random.Random(172)
        for program, guard in GUARDED:
            keeper = Keeper(program, guard=guard)
            for deed in any_history(chance, program, 8, guard):
                keeper.do(deed)
                before = state(keeper)
                self.assertTrue(self.put(keeper, program, guard))
                self.assertEqual(state(keeper), before)


class Equal(unittest.TestCase):
    def test_with_itself_alone(self):
        keeper, other = Keeper(GREATEST), Keeper(GREATEST)
        self.assertTrue(keeper == keeper)
        self.assertFalse(keeper != keeper)
        for thing in (other, None, (), keeper.stair(), (keeper,), Run(GREATEST), 0, True, "keeper", GREATEST, [keeper]):
            self.assertFalse(keeper == thing)
            self.assertFalse(thing == keeper)
            self.assertTrue(keeper != thing)
        keeper.do(("ask",))
        self.assertTrue(keeper == keeper)
        self.assertIn(keeper, [other, keeper])
        self.assertNotIn(keeper, [other, None])
        self.assertIn("__eq__", vars(Keeper))
        self.assertIn("__len__", vars(Keeper))


class Handed(Keepers):
    def test_names(self):
        parameters = inspect.signature(Keeper).parameters
        self.assertEqual(list(parameters), ["program", "guard", "keep"])
        self.assertEqual([parameters[name].default for name in ("guard", "keep")], [None, True])
        for name in ("guard", "keep"):
            self.assertEqual(parameters[name].kind, inspect.Parameter.KEYWORD_ONLY)
        for name, names in (("do", ["self", "deed"]), ("put", ["self", "other"]), ("stair", ["self"]), ("at", ["self"]),
                            ("held", ["self"]), ("program", ["self"]), ("back", ["self"])):
            self.assertEqual(list(inspect.signature(vars(Keeper)[name]).parameters), names)

    def test_by_names(self):
        keeper = Keeper(keep=True, guard=TURNS, program=SECONDS)
        keeper.do(deed=("push", 5))
        self.assertEqual(keeper.put(other=turned_about(SECONDS)), (0, ((), (5, 0, 0))))
        keeper.back()
        self.assertEqual(keeper.stair(), stair_of(SECONDS, (("push", 5),), guard=TURNS))

    def test_what_was_told_is_left_as_it_was(self):
        keeper = Keeper(MIDDLE)
        keeper.do(("push", 5))
        stair, held = keeper.stair(), keeper.held()
        keeper.do(("push", 6))
        self.assertEqual((stair, held), (stair_of(MIDDLE, (("push", 5),)), ((5, 0, 0),)))
        for part in (*keeper.stair(), keeper.stair(), keeper.held()):
            self.assertIs(type(part), tuple)

    def test_two_keepers_of_one_program(self):
        one, other = Keeper(MIDDLE), Keeper(MIDDLE)
        one.do(("push", 5))
        self.look(other, MIDDLE, first_stair(MIDDLE), 0)


if __name__ == "__main__":
    unittest.main()
