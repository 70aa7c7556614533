import inspect
import itertools
import random
import unittest

from stilltold.errors import NotHeld
from stilltold.runs import Run, is_history, told
from stilltold.stairs import first_stair, stair_of
from stilltold.ways import shows_way, way_out
from tests.helper import (ANYTHING, ECHO, GREATEST, HUGE, JUDGED, MIDDLE, ORDER, PAIR, PATIENT, SECONDS, TURNS, TWINS,
                          Judges, any_deeds, any_guard, any_history, any_program, end_of, first_going_on, goings_on,
                          kept_as_is, low_and_high, nearly, notes_of, same_telling, with_modes_twice)

NUMBERS = (-HUGE, -2, -1, 0, 1, 1, 1, 2, HUGE)


class Ways(Judges, unittest.TestCase):
    def tells(self, program, history, note):
        """Of a going on: whether a Run that did the history tells the note by its last deed."""
        return lambda going: told(program, history + going)[-1] == note

    def follow(self, program, history, guard=None, most=2):
        """The ways out of all notes behind the history, against a plain going through of short goings on."""
        stair = stair_of(program, history, guard=guard)
        numbers = low_and_high(stair[1])
        place = end_of(program, history, guard)[0]
        for note in notes_of(history):
            tells = self.tells(program, history, note)
            found = first_going_on(program, place, most, numbers, tells, guard)
            if note not in stair[1]:
                self.assertIsNone(found)
                self.refused(note, program, stair, guard)
                continue
            way = way_out(program, stair, note, guard=guard)
            self.assertTrue({number for deed in way for number in deed[1:]} <= set(numbers))
            self.assertTrue(is_history(program, history + way, guard=guard))
            self.assertTrue(tells(way))
            self.assertEqual(found, way if len(way) <= most else None)
            self.yes(shows_way, program, stair, note, way, guard=guard)

    def refused(self, note, program, stair, guard=None):
        with self.assertRaises(NotHeld) as caught:
            way_out(program, stair, note, guard=guard)
        self.assertIs(caught.exception.note, note)


class WayOut(Ways):
    def test_by_hand(self):
        self.assertEqual(way_out(GREATEST, stair_of(GREATEST, (("top", 5),)), (5, 0, 0)), (("ask",),))
        stair = stair_of(MIDDLE, (("push", 5), ("push", -1), ("push", 5), ("push", 2)))
        self.assertEqual(way_out(MIDDLE, stair, (2, 3, 0)), (("ask",),))
        self.assertEqual(way_out(MIDDLE, stair, (5, 2, 0)), (("push", -2), ("push", -2)))
        self.assertEqual(way_out(MIDDLE, stair, (-1, 1, 0)), (("push", -2),))
        stair = stair_of(SECONDS, (("push", 5), ("push", 3)))
        self.assertEqual(way_out(SECONDS, stair, (3, 1, 0)), (("ask",),))
        self.assertEqual(way_out(SECONDS, stair, (5, 0, 0)), (("push", 6), ("ask",)))
        self.assertEqual(way_out(PATIENT, stair_of(PATIENT, (("go", -7),)), (-7, 0, 0)), (("go", -8),) * 3)

    def test_with_a_guard_it_may_be_longer_or_gone(self):
        history = (("push", 5), ("push", 3))
        stair = stair_of(SECONDS, history, guard=TURNS)
        self.assertEqual(way_out(SECONDS, stair, (3, 1, 0), guard=TURNS), (("ask",),))
        self.refused((5, 0, 0), SECONDS, stair, TURNS)
        wait = ((0, 1, 0), (0, None, 2), (0, 0, 0))
        program = (("a",), (("put", 1), ("ask", 0), ("wait", 0)),
                   (((0, (("came", 0),), None), (0, (None,), ("cell", "a")), (0, (None,), None)),))
        stair = stair_of(program, (("put", 4), ("ask",)), guard=wait)
        self.assertEqual(way_out(program, stair, (4, 0, 0), guard=wait), (("wait",), ("ask",)))

    def test_numbers_of_sixty_figures(self):
        stair = stair_of(SECONDS, (("push", HUGE),))
        self.assertEqual(way_out(SECONDS, stair, (HUGE, 0, 0)), (("push", HUGE + 1), ("ask",)))
        stair = stair_of(MIDDLE, (("push", -HUGE), ("push", HUGE)))
        self.assertEqual(way_out(MIDDLE, stair, (-HUGE, 0, 0)), (("ask",),))

    def test_of_programs(self):
        chance = random.Random(81)
        for program in JUDGED:
            for many in range(7):
                for times in range(3):
                    self.follow(program, any_history(chance, program, many, numbers=NUMBERS), most=3)

    def test_all_short_histories(self):
        deeds = [("put", 1, 1), ("put", 2, 1), ("put", 1, 2), ("turn",), ("one", 1), ("one", 2)]
        for history in itertools.product(deeds, repeat=3):
            self.follow(PAIR, history)
        for history in itertools.product([("push", 1), ("push", 2), ("ask",), ("clear",)], repeat=4):
            self.follow(SECONDS, history, most=3)

    def test_with_guards(self):
        chance = random.Random(82)
        for program, guard in ((PAIR, ((0, 1, 1), (None, 0, 1))), (SECONDS, TURNS), (SECONDS, TWINS),
                               (MIDDLE, ((1, None), (2, 0), (None, 0)))):
            for many in range(1, 9):
                self.follow(program, any_history(chance, program, many, guard, numbers=NUMBERS), guard, most=3)
        self.follow(PAIR, (("put", 3, 3), ("turn",)), ORDER, most=4)

    def test_of_programs_that_tell_the_same(self):
        chance = random.Random(83)
        for program in (SECONDS, PAIR, MIDDLE):
            history = any_history(chance, program, 8)
            for other in same_telling(program):
                self.follow(other, history)
                for note in stair_of(program, history)[1]:
                    self.assertEqual(way_out(other, stair_of(other, history), note),
                                     way_out(program, stair_of(program, history), note))

    def test_by_chance(self):
        chance = random.Random(84)
        for turn in range(120):
            program = any_program(chance, any_deeds(chance, 2), 3)
            guard = chance.choice((None, any_guard(chance, program[1])))
            self.follow(program, any_history(chance, program, 5, guard, numbers=range(-2, 3)), guard)

    def test_not_held_of_anything(self):
        stair = stair_of(SECONDS, (("push", 1), ("push", 0)))
        self.assertEqual(stair[1], ((0, 1, 0), (1, 0, 0)))
        for thing in ANYTHING + ((), (1, 0, 1), (1, 1, 0), (0, 0, 0), (2, 0, 0), [1, 0, 0], (True, 0, 0), (1, False, 0),
                                 (1, 0, False), (False, 1, 0), (0, True, 0), ("1", 0, 0), (1, 0), (1, 0, 0, 0),
                                 ((1, 0, 0),), stair):
            self.refused(thing, SECONDS, stair)
            self.refused(thing, SECONDS, first_stair(SECONDS))
        for thing in nearly((1, 0, 0)):
            if type(thing) is not tuple or repr(thing) not in ("(1, 0, 0)", "(0, 1, 0)"):
                self.refused(thing, SECONDS, stair)

    def test_not_held_any_more(self):
        history = (("push", 5), ("push", 4), ("push", 3))
        self.refused((3, 2, 0), SECONDS, stair_of(SECONDS, history))
        self.refused((5, 0, 0), SECONDS, stair_of(SECONDS, history + (("clear",),)))


class ShowsWay(Ways):
    def judged(self, program, history, stair, note, thing, guard):
        """By a Run that did the history, and whose at is then the one that is told."""
        if note not in stair[1] or type(thing) is not tuple or thing == ():
            return False
        if not is_history(program, history + thing, guard=guard):
            return False
        run = Run(program)
        for deed in history:
            run.do(deed)
        run = Run(program, mode=run.mode(), held=run.held(), at=1 + max(at for number, at, place in stair[1]))
        return [run.do(deed) for deed in thing][-1] == note

    def look(self, program, history, note, thing, guard=None):
        stair = stair_of(program, history, guard=guard)
        right = self.judged(program, history, stair, note, thing, guard)
        self.assertIs(shows_way(program, stair, note, thing, guard=guard), right, (note, thing))
        return right

    CASES = ((SECONDS, (("push", 5), ("push", 3)), None), (SECONDS, (("push", 5), ("push", 3)), TURNS),
             (MIDDLE, (("push", 5), ("push", -1), ("push", 5), ("push", 2)), None), (PATIENT, (("go", 1),), None),
             (PAIR, (("put", 4, 4), ("turn",)), None), (PAIR, (("put", 5, 4), ("turn",), ("turn",)), ORDER),
             (SECONDS, (("push", 5), ("push", 3), ("ask",)), ((0, 1, 0), (None, 1, 0))),
             (with_modes_twice(SECONDS), (("push", 5), ("push", 5)), None))

    def test_by_hand(self):
        stair = stair_of(SECONDS, (("push", 5), ("push", 3)))
        self.yes(shows_way, SECONDS, stair, (3, 1, 0), (("ask",),))
        self.yes(shows_way, SECONDS, stair, (3, 1, 0), (("push", 2), ("push", -HUGE), ("ask",), ("ask",)))
        self.no(shows_way, SECONDS, stair, (3, 1, 0), (("push", 2),))
        self.no(shows_way, SECONDS, stair, (3, 1, 0), (("push", 3), ("ask",)))
        self.no(shows_way, SECONDS, stair, (3, 1, 0), (("push", 6), ("ask",)))
        self.yes(shows_way, SECONDS, stair, (5, 0, 0), (("push", 5), ("ask",)))
        self.no(shows_way, SECONDS, stair, (5, 0, 0), (("push", 4), ("ask",)))
        self.no(shows_way, SECONDS, stair, (5, 0, 0), (("push", 6), ("clear",), ("ask",)))

    def test_goings_on_of_other_numbers(self):
        for program, history, guard in self.CASES:
            stair = stair_of(program, history, guard=guard)
            place = end_of(program, history, guard)[0]
            numbers = sorted({number + near for number, at, where in stair[1] for near in (-1, 0, 1)})[:4]
            shown = 0
            for note in notes_of(history):
                for many in (1, 2):
                    for going in goings_on(program, place, many, numbers, guard):
                        shown += self.look(program, history, note, going, guard)
            self.assertTrue(shown or program == PATIENT)

    def test_each_way_with_one_thing_otherwise(self):
        foreign = (None, True, False, 0, 1, -1, 3, 5, HUGE, "", "ask", "push", "0", (), ("ask",), ("clear",), ("turn",),
                   ["ask"], [], {})
        for program, history, guard in self.CASES:
            stair = stair_of(program, history, guard=guard)
            for note in stair[1]:
                way = way_out(program, stair, note, guard=guard)
                for thing in nearly(way, foreign):
                    self.look(program, history, note, thing, guard)

    def test_not_let(self):
        history = (("push", 5), ("push", 3))
        stair = stair_of(SECONDS, history, guard=TURNS)
        self.yes(shows_way, SECONDS, stair, (3, 1, 0), (("ask",), ("ask",)), guard=TURNS)
        self.no(shows_way, SECONDS, stair, (3, 1, 0), (("push", 1), ("ask",)), guard=TURNS)
        self.no(shows_way, SECONDS, stair, (3, 1, 0), (("ask",), ("push", 1), ("ask",)), guard=TURNS)
        self.no(shows_way, SECONDS, stair, (3, 1, 0), (("ask",), ("push", 1)), guard=TURNS)

    def test_nothing_and_lists(self):
        stair = stair_of(SECONDS, (("push", 5), ("push", 3)))
        for thing in ((), [], [("ask",)], (["ask"],), ("ask",), "ask", (("ask",), ["ask"]), (("ask",), []), None):
            self.no(shows_way, SECONDS, stair, (3, 1, 0), thing)

    def test_of_anything(self):
        for program, history, guard in self.CASES:
            for note in stair_of(program, history, guard=guard)[1]:
                for thing in ANYTHING:
                    for wrapped in (thing, (thing,), (("ask",), thing), (thing, ("ask",)), (("push", thing),),
                                    ((thing, 6),), (("push", 6), ("ask",), thing)):
                        self.look(program, history, note, wrapped, guard)

    def test_not_held(self):
        stair = stair_of(SECONDS, (("push", 5), ("push", 4), ("push", 3)))
        for note in ((3, 2, 0), (5, 0, 1), (6, 0, 0), (5, True, 0), (5, False, 0), [5, 0, 0], ()) + ANYTHING:
            for thing in ((("ask",),), (("push", 6), ("ask",)), (), [("ask",)], None):
                self.no(shows_way, SECONDS, stair, note, thing)
                self.no(shows_way, SECONDS, first_stair(SECONDS), note, thing)
        self.no(shows_way, ECHO, first_stair(ECHO), (5, 0, 0), (("say", 5, 5),))

    def test_a_note_of_the_going_on_is_not_it(self):
        # The number 5 that comes later is another note.
        stair = stair_of(GREATEST, (("top", 5),))
        self.no(shows_way, GREATEST, stair, (5, 0, 0), (("top", 5), ("ask",)))
        self.no(shows_way, GREATEST, stair, (5, 1, 0), (("top", 5), ("ask",)))

    def test_a_long_one(self):
        stair = stair_of(GREATEST, (("top", 5),))
        self.yes(shows_way, GREATEST, stair, (5, 0, 0), (("top", 4),) * 299 + (("ask",),))
        self.no(shows_way, GREATEST, stair, (5, 0, 0), (("top", 4),) * 298 + (("top", 6), ("ask",)))


class Handed(unittest.TestCase):
    def test_names(self):
        for function, names in ((way_out, ["program", "stair", "note", "guard"]),
                                (shows_way, ["program", "stair", "note", "thing", "guard"])):
            self.assertEqual(list(inspect.signature(function).parameters), names)
            self.assertEqual(inspect.signature(function).parameters["guard"].kind, inspect.Parameter.KEYWORD_ONLY)
            self.assertIsNone(inspect.signature(function).parameters["guard"].default)

    def test_by_names_and_asked_again(self):
        stair = stair_of(SECONDS, (("push", 5), ("push", 3)), guard=TURNS)
        self.assertEqual(way_out(guard=TURNS, note=(3, 1, 0), stair=stair, program=SECONDS), (("ask",),))
        self.assertEqual(kept_as_is(self, way_out, SECONDS, stair, (3, 1, 0), guard=TURNS), (("ask",),))
        self.assertIs(shows_way(guard=TURNS, thing=(("ask",),), note=(3, 1, 0), stair=stair, program=SECONDS), True)
        self.assertIs(kept_as_is(self, shows_way, SECONDS, stair, (3, 1, 0), (("ask",),), guard=TURNS), True)
        self.assertIs(kept_as_is(self, shows_way, SECONDS, stair, (3, 1, 0), [["ask"], {}], guard=TURNS), False)


if __name__ == "__main__":
    unittest.main()
