"""Promise (a): under each bar the program is one small machine of bits, the same for all bars."""

import itertools
import random
import unittest

from stilltold.runs import Run, is_history
from stilltold.shadows import cast, first_shadow, under
from tests.helper import PAIR, PROGRAMS, any_guard, any_history, any_program, notes_of


class Bars(unittest.TestCase):
    def follow(self, program, history, guard=None):
        notes = notes_of(history)
        bars = sorted(notes) + [(-10 ** 9, 0, 0), (10 ** 9, 0, 0)]
        shadows = {bar: first_shadow(program) for bar in bars}
        run, place = Run(program), 0
        for deed in history:
            came = tuple((number, run.at(), at) for at, number in enumerate(deed[1:]))
            answer = run.do(deed)
            place = 0 if guard is None else guard[place][[called for called, many in program[1]].index(deed[0])]
            ones = []
            for bar in bars:
                told, shadows[bar] = cast(program, shadows[bar], (deed[0],) + under(came, bar), guard=guard)
                self.assertEqual(shadows[bar], (place, run.mode(), under(run.held(), bar)))
                self.assertEqual(told, None if answer is None else under((answer,), bar)[0])
                ones += [bar] if told == 1 and bar in notes else []
            self.assertEqual(max(ones, default=()), answer or ())

    def test_of_programs(self):
        chance = random.Random(13)
        for program in PROGRAMS:
            for many in range(1, 12):
                self.follow(program, any_history(chance, program, many))

    def test_of_all_short_histories(self):
        deeds = [("put", 1, 1), ("put", 2, 1), ("put", 1, 2), ("turn",), ("one", 1), ("one", 2)]
        for history in itertools.product(deeds, repeat=4):
            self.follow(PAIR, history)

    def test_of_programs_by_chance(self):
        chance = random.Random(14)
        for turn in range(150):
            program = any_program(chance)
            self.follow(program, any_history(chance, program, 10, numbers=range(-2, 3)))

    def test_with_guards(self):
        chance = random.Random(15)
        for turn in range(100):
            program = any_program(chance)
            guard = any_guard(chance, program[1])
            history = any_history(chance, program, 8, guard)
            self.assertTrue(is_history(program, history, guard=guard))
            self.follow(program, history, guard)


if __name__ == "__main__":
    unittest.main()
