"""The promises over the whole program, (a) to (h), each by some programs, guards and histories by chance."""

import itertools
import random
import unittest

from stilltold import errors
from stilltold.ages import oldest, shows_oldest
from stilltold.aparts import alike, apart, shows_alike
from stilltold.desk import Desk
from stilltold.errors import NoFit, NoPlace, ToldError
from stilltold.going import gone, shows_gone
from stilltold.joining import joined
from stilltold.keeping import Keeper
from stilltold.likeness import table
from stilltold.placing import goes_on, in_place
from stilltold.programs import is_program
from stilltold.reading import read_guard, read_history, read_program
from stilltold.runs import Run, is_history, told
from stilltold.shadows import cast, first_shadow, under
from stilltold.showing import show_answer, show_guard, show_history, show_program, show_stair
from stilltold.stairs import stair_of
from stilltold.standing import leads, most_held, stands
from stilltold.standlooks import shows_stands
from stilltold.ways import shows_way, way_out
from tests.helper import (BOTH_ENDS, GREATEST, LAST, MIDDLE, OLD, PAIR, PATIENT, SECONDS, TURNS, any_deeds, any_guard,
                          any_history, any_program, best, goings_on, line_of, notes_of, same_telling, turned_about)

NUMBERS = (-7, -1, 0, 0, 0, 3, 3, 8)
KNOWN = tuple((program, None) for program in (GREATEST, LAST, OLD, MIDDLE, PAIR, SECONDS, PATIENT, BOTH_ENDS, best(3)))
TIMES = 40


def drawn(seed, most=2):
    """Programs and guards by chance, and some that are known, each with a history that is let."""
    chance = random.Random(seed)
    pairs = list(KNOWN) + [(SECONDS, TURNS)]
    for turn in range(TIMES):
        program = any_program(chance, any_deeds(chance, 3), most)
        pairs.append((program, chance.choice((None, any_guard(chance, program[1])))))
    return [(program, guard, any_history(chance, program, 7, guard, numbers=NUMBERS)) for program, guard in pairs]


class Whole(unittest.TestCase):
    def answers(self, program, history, going):
        """What the program tells of a going on behind the history."""
        return told(program, history + going)[len(history):]

    def place_behind(self, program, history, guard):
        names, place = [name for name, many in program[1]], 0
        for deed in history:
            place = 0 if guard is None else guard[place][names.index(deed[0])]
        return place

    def test_a(self):
        for program, guard, history in drawn(271):
            answers, notes = told(program, history), sorted(notes_of(history))
            shadows = {bar: first_shadow(program) for bar in notes}
            for at, deed in enumerate(history):
                came, ones = tuple((number, at, place) for place, number in enumerate(deed[1:])), []
                for bar in notes:
                    answer, shadows[bar] = cast(program, shadows[bar], (deed[0],) + under(came, bar), guard=guard)
                    self.assertIs(answer is None, answers[at] is None)
                    ones += [bar] if answer == 1 else []
                self.assertEqual(max(ones, default=()), answers[at] or ())

    def test_b_held_and_gone(self):
        for program, guard, history in drawn(272):
            stair = stair_of(program, history, guard=guard)
            for note in notes_of(history):
                paper = gone(program, history, note, guard=guard)
                self.assertIs(paper is None, note in stair[1])
                if paper is None:
                    way = way_out(program, stair, note, guard=guard)
                    self.assertTrue(is_history(program, history + way, guard=guard))
                    self.assertEqual(self.answers(program, history, way)[-1], note)
                    self.assertTrue(shows_way(program, stair, note, way, guard=guard))
                    self.assertLessEqual(len({number for deed in way for number in deed[1:]}), 2)
                else:
                    self.assertTrue(shows_gone(program, history, note, paper, guard=guard))

    def test_b_a_keeper_tells_what_the_program_tells(self):
        for program, guard, history in drawn(273):
            keeper = Keeper(program, guard=guard)
            self.assertEqual(tuple(keeper.do(deed) for deed in history), told(program, history))
            self.assertEqual(keeper.stair(), stair_of(program, history, guard=guard))

    def test_b_the_same_stairs(self):
        chance = random.Random(274)
        for program, guard, history in drawn(275):
            other = any_history(chance, program, 7, guard, numbers=NUMBERS)
            stairs = [stair_of(program, row, guard=guard) for row in (history, other)]
            going = apart(program, stairs[0], program, stairs[1], guard=guard)
            self.assertIs(going is None, stairs[0] == stairs[1])
            if going is not None:
                rows = [row + going for row in (history, other)]
                let = [is_history(program, row, guard=guard) for row in rows]
                self.assertTrue(any(let))
                if all(let):
                    self.assertNotEqual(told(program, rows[0])[-1], told(program, rows[1])[-1])
                    self.assertEqual(told(program, rows[0])[7:-1], told(program, rows[1])[7:-1])

    def test_c(self):
        chance = random.Random(276)
        found = {True: 0, False: 0}
        for program, guard, history in drawn(277):
            others = [any_program(chance, program[1], 2), turned_about(program)]
            for other in others:
                row = alike(program, other, guard=guard)
                found[row is None] += 1
                if row is None:
                    paper = table(program, first_shadow(program), other, first_shadow(other), guard=guard)
                    self.assertTrue(shows_alike(program, other, paper, guard=guard))
                    self.assertEqual(told(program, history), told(other, history))
                else:
                    self.assertTrue(is_history(program, row, guard=guard))
                    self.assertNotEqual(told(program, row)[-1], told(other, row)[-1])
                    self.assertLessEqual({number for deed in row for number in deed[1:]}, {0, 1})
                    for shorter in itertools.chain(*[goings_on(program, 0, many, (0, 1), guard)
                                                     for many in range(1, min(len(row), 3))]):
                        self.assertEqual(told(program, shorter), told(other, shorter))
        self.assertGreater(min(found.values()), 20)

    def test_d(self):
        for program, guard, history in drawn(278):
            lot = stands(program, guard=guard)
            many, row = most_held(program, guard=guard)
            self.assertTrue(shows_stands(program, lot, guard=guard))
            self.assertEqual(len(stair_of(program, row, guard=guard)[1]), many)
            self.assertEqual(max(len(stand) for stand in lot), many + 1)
            for at in range(len(history) + 1):
                self.assertIn(stair_of(program, history[:at], guard=guard)[0], lot)
            for stand in lot[:6]:
                self.assertEqual(stair_of(program, leads(program, stand, guard=guard), guard=guard)[0], stand)

    def test_e(self):
        for program, guard, history in drawn(279):
            found = oldest(program, guard=guard)
            self.assertTrue(shows_oldest(program, found, guard=guard))
            ages = [at - answer[1] for at, answer in enumerate(told(program, history)) if answer]
            if found[0] == "never":
                self.assertEqual(ages, [])
            if found[0] == "age":
                self.assertLessEqual(max(ages, default=0), found[1])
                self.assertEqual(told(program, found[2])[-1][1], len(found[2]) - 1 - found[1])
            if found[0] == "ever":
                notes = stair_of(program, found[1] + found[2] * 9, guard=guard)[1]
                self.assertTrue(any(at < len(found[1]) for number, at, place in notes))

    def test_f(self):
        chance = random.Random(280)
        many = 0
        for program, guard, history in drawn(281):
            others = [other for other in same_telling(program) if is_program(other)]
            others.append(any_program(chance, program[1], 2))
            keeper, run = Keeper(program, guard=guard), Run(program)
            for deed in history:
                many += self.put(keeper, chance.choice(others), guard)
                self.assertEqual(keeper.do(deed), run.do(deed))
        self.assertGreater(many, 100)

    def put(self, keeper, other, guard):
        """Whether the other could be put, as in_place tells."""
        program, stair = keeper.program(), keeper.stair()
        moment = in_place(program, stair, other, guard=guard)
        try:
            self.assertEqual(keeper.put(other), moment)
        except NoPlace:
            self.assertIsNone(moment)
            return False
        self.assertTrue(goes_on(program, stair, other, moment, guard=guard))
        return True

    def test_g(self):
        chance = random.Random(282)
        many = 0
        for first, guard, history in drawn(283):
            second = any_program(chance, any_deeds(chance, 3), 2)
            names = [name for name, brings in second[1] if brings < 2] + [None]
            links = tuple(chance.choice(names) for deed in first[1])
            try:
                program = joined(first, second, links)
            except NoFit:
                continue
            many += 1
            self.assertTrue(is_program(program))
            self.assertEqual(told(program, history), self.behind_another(first, second, links, history))
        self.assertGreater(many, 15)

    def behind_another(self, first, second, links, history):
        """What the second tells of what the first tells: its notes are told apart by their order alone."""
        rows, names = [], [name for name, brings in first[1]]
        brings = dict(second[1])
        steps = [(links[names.index(deed[0])], answer or ()) for deed, answer in zip(history, told(first, history))]
        # None is handed on as the number 0, which is below all others and above nothing but none itself.
        order = sorted({note for link, note in steps} | {()})
        run = Run(second)
        for link, note in steps:
            if link is None:
                rows.append(None)
                continue
            answer = run.do((link,) + (order.index(note),) * brings[link])
            rows.append(answer if answer is None else order[answer[0]] if answer else ())
        return tuple(rows)

    def test_h_texts(self):
        for program, guard, history in drawn(284, 3):
            self.assertEqual(read_program(show_program(program)), program)
            self.assertEqual(read_history(program[1], show_history(history)), history)
            if guard is not None:
                self.assertEqual(read_guard(program[1], show_guard(program[1], guard)), guard)

    def test_h_the_desk(self):
        for program, guard, history in drawn(285):
            if "put" in dict(program[1]):
                continue
            desk, keeper = Desk(show_program(program)), Keeper(program)
            for deed in history:
                self.assertEqual(desk.say(show_history((deed,))), show_answer(keeper.do(deed)))
                self.assertEqual(desk.say("stair"), show_stair(keeper.stair()))
            self.assertEqual(desk.say("most"), str(most_held(program)[0]))
            self.assertIn(desk.say("oldest"), [str(part) for part in oldest(program)[:2]])
            self.assertEqual(desk.say("text"), line_of(program))
            self.assertEqual(desk.say("put " + line_of(turned_about(program))), "done")
            self.assertEqual(desk.say("alike " + line_of(program)), "alike")


class Interface(unittest.TestCase):
    MODULES = {
        "errors": "ToldError NoDeed NotLet NotHeld NotCame TooMany NoText NoLine NoPair NoPlace NothingDone NoFit",
        "notes": "is_note kth", "choices": "is_choice chosen", "programs": "is_program", "guards": "is_guard free",
        "runs": "is_history told Run", "shadows": "under is_shadow first_shadow cast bit_deeds",
        "likeness": "parting table least_like", "tablelooks": "shows_table", "stairs": "first_stair stair_of stepped",
        "keeping": "Keeper", "ways": "way_out shows_way", "going": "gone shows_gone",
        "aparts": "apart alike shows_alike", "standing": "stands leads most_held MOST", "standlooks": "shows_stands",
        "ages": "oldest shows_oldest", "placing": "goes_on in_place", "joining": "joined",
        "showing": "show_program show_guard show_history show_answer show_stair",
        "reading": "read_program read_guard read_history", "desk": "Desk"}

    def test_all_names(self):
        for module, names in self.MODULES.items():
            found = __import__("stilltold." + module, fromlist=["a"])
            for name in names.split():
                self.assertTrue(hasattr(found, name), (module, name))

    def test_refusals(self):
        for name in self.MODULES["errors"].split()[1:]:
            self.assertEqual(getattr(errors, name).__bases__, (ToldError,))
        self.assertEqual(ToldError.__bases__, (ValueError,))


if __name__ == "__main__":
    unittest.main()
