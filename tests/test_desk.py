import inspect
import random
import unittest

from stilltold.ages import oldest
from stilltold.aparts import alike
from stilltold.desk import Desk
from stilltold.errors import NoLine, NoPair, NoPlace, NoText, NotHeld, NothingDone, TooMany
from stilltold.keeping import Keeper
from stilltold.showing import show_answer, show_history, show_program, show_stair
from stilltold.standing import most_held
from stilltold.ways import way_out
from tests.helper import (ANYTHING, BOTH_ENDS, ECHO, FIRST, GREATEST, HUGE, LAST, MIDDLE, NOTHING, OLD, PAIR, PATIENT,
                          SECONDS, WIDE, any_deeds, any_history, any_program, falling_out, line_of, other_deeds,
                          same_telling, turned_about, with_idle_cell, with_modes_twice)

NUMBERS = (-HUGE, -2, -1, 0, 1, 1, 1, 2, HUGE)
ASKED = ("held", "stair", "most", "oldest", "text")


class Desks(unittest.TestCase):
    def state(self, desk):
        """All that a desk tells of itself."""
        return [desk.say(line) for line in ASKED]

    def look(self, desk, keeper):
        """That the desk tells what is true of the keeper."""
        program, stair = keeper.program(), keeper.stair()
        self.assertEqual(desk.say("held"), " ".join(show_answer(note) for note in keeper.held()) or "-")
        self.assertEqual(desk.say("stair"), show_stair(stair))
        self.assertEqual(desk.say("text"), line_of(program))
        for note in keeper.held():
            self.assertEqual(desk.say("way " + show_answer(note)), show_history(way_out(program, stair, note)))

    def refused(self, desk, error, line):
        """That the line is refused so, and nothing is changed by it."""
        before = self.state(desk)
        with self.assertRaises(error) as caught:
            desk.say(line)
        self.assertIs(type(caught.exception), error)
        self.assertEqual(self.state(desk), before)
        return caught.exception

    def no_lines(self, desk, *lines):
        for line in lines:
            self.assertIs(self.refused(desk, NoLine, line).line, line)


class ByHand(Desks):
    def test_seconds(self):
        desk = Desk(show_program(SECONDS))
        text = ("cells hi lo / deed push 1 / deed ask 0 / deed clear 0 / mode / on push 0 / "
                "set hi greatest(hi,came0) / set lo kth(2;hi,lo,came0) / on ask 0 / tell lo / "
                "on clear 0 / set hi none / set lo none")
        for line, answer in (("held", "-"), ("stair", "0.0.00"), ("ask", "none"), ("push 5", "-"), ("held", "5@1.0"),
                             ("push -3", "-"), ("held", "-3@2.0 5@1.0"), ("ask", "-3@2.0"),
                             ("stair", "0.0.11 -3@2.0 0.0.10 5@1.0 0.0.00"), ("way -3@2.0", "ask"),
                             ("way 5@1.0", "push 6, ask"), ("most", "2"), ("oldest", "ever"), ("text", text),
                             ("alike " + text, "alike"), ("put " + text, "done"), ("back", "done"), ("back", "done"),
                             ("back", "done"), ("held", "5@1.0"), ("clear", "-"), ("held", "-"), ("stair", "0.0.00")):
            self.assertEqual(desk.say(line), answer, line)

    def test_two_numbers(self):
        desk = Desk(show_program(PAIR))
        self.assertEqual(desk.say("one 3"), "none")
        self.assertEqual(desk.say("turn"), "-")
        desk = Desk(show_program(ECHO))
        self.assertEqual(desk.say("say -5 7"), "-5@0.0")
        self.assertEqual(desk.say("say -5 7"), "7@1.1")
        self.assertEqual(desk.say("say 0 " + "7" * 70), "0@2.0")
        self.assertEqual(desk.say("say 0 -" + "7" * 70), "-" + "7" * 70 + "@3.1")

    def test_ages(self):
        for program, answer in ((NOTHING, "never"), (ECHO, "0"), (falling_out(1), "1"), (falling_out(3), "3"),
                                (GREATEST, "ever")):
            self.assertEqual(Desk(show_program(program)).say("oldest"), answer)

    def test_most(self):
        for program, answer in ((NOTHING, "0"), (ECHO, "0"), (falling_out(4), "4"), (GREATEST, "1"), (BOTH_ENDS, "2")):
            self.assertEqual(Desk(show_program(program)).say("most"), answer)

    def test_alike(self):
        desk = Desk(show_program(GREATEST))
        self.assertEqual(desk.say("alike " + line_of(GREATEST)), "alike")
        self.assertEqual(desk.say("alike " + line_of(with_idle_cell(GREATEST))), "alike")
        self.assertEqual(desk.say("alike " + line_of(LAST)), "top 1, top 0, ask")
        desk.say("top 7")
        self.assertEqual(desk.say("alike " + line_of(LAST)), "top 1, top 0, ask")
        self.assertEqual(desk.say("held"), "7@0.0")

    def test_put_tells_of_the_program_that_goes_on(self):
        # The other one never takes a number, and so can go on only where the first one takes none any more.
        first = (("a",), (("push", 1), ("ask", 0)),
                 (((1, (FIRST,), None), (0, (None,), None)), ((1, (None,), None), (1, (None,), ("cell", "a")))))
        other = (("b",), (("push", 1), ("ask", 0)), (((0, (None,), None), (0, (None,), ("cell", "b"))),))
        desk = Desk(show_program(first))
        self.refused(desk, NoPlace, "put " + line_of(other))
        desk.say("push 5")
        self.assertEqual(desk.say("put " + line_of(other)), "done")
        self.assertEqual(self.state(desk), ["5@0.0", "0.0.1 5@0.0 0.0.0", "0", "never", line_of(other)])
        self.assertEqual(desk.say("way 5@0.0"), "ask")
        self.assertEqual(desk.say("alike " + line_of(other)), "alike")
        self.assertEqual(desk.say("alike " + line_of(first)), "ask")
        self.assertEqual(desk.say("push 6"), "-")
        self.assertEqual(desk.say("ask"), "5@0.0")
        for line in ("back", "back", "back"):
            self.assertEqual(desk.say(line), "done")
        self.assertEqual(self.state(desk)[2:], ["1", "ever", line_of(first)])

    def test_ever_and_the_age_of_the_program_that_goes_on(self):
        desk = Desk(show_program(NOTHING))
        self.assertEqual(desk.say("ask"), "-")
        self.assertEqual(desk.say("put " + line_of(with_modes_twice(NOTHING))), "done")
        self.assertEqual(desk.say("text"), "cells / deed ask 0 / mode / on ask 1 / mode / on ask 0")


class BesideKeepers(Desks):
    def follow(self, chance, program, steps, others):
        """Lines by chance, done by a keeper too."""
        desk, keeper = Desk(show_program(program)), Keeper(program)
        for step in range(steps):
            turn = chance.random()
            if turn < 0.15:
                self.back(desk, keeper)
            elif turn < 0.3:
                self.put(desk, keeper, chance.choice(others))
            else:
                deed = any_history(chance, program, 1, numbers=NUMBERS)[0]
                if deed[0] not in ("put",):
                    self.assertEqual(desk.say(" ".join(str(part) for part in deed)), show_answer(keeper.do(deed)))
            self.look(desk, keeper)
        found = oldest(keeper.program())
        self.assertEqual(desk.say("most"), str(most_held(keeper.program())[0]))
        self.assertEqual(desk.say("oldest"), str(found[1]) if found[0] == "age" else found[0])
        for other in others:
            history = alike(keeper.program(), other)
            self.assertEqual(desk.say("alike " + line_of(other)), "alike" if history is None else show_history(history))

    def back(self, desk, keeper):
        try:
            keeper.back()
        except NothingDone:
            self.refused(desk, NothingDone, "back")
        else:
            self.assertEqual(desk.say("back"), "done")

    def put(self, desk, keeper, other):
        try:
            keeper.put(other)
        except NoPlace:
            self.refused(desk, NoPlace, "put " + line_of(other))
        else:
            self.assertEqual(desk.say("put " + line_of(other)), "done")

    def test_of_programs(self):
        chance = random.Random(261)
        for program in (GREATEST, MIDDLE, PAIR, NOTHING, ECHO, SECONDS):
            self.follow(chance, program, 25, same_telling(program))
        self.follow(chance, GREATEST, 25, [GREATEST, LAST, OLD])
        self.follow(chance, PATIENT, 25, [PATIENT, turned_about(PATIENT), with_idle_cell(PATIENT)])

    def test_of_programs_by_chance(self):
        chance = random.Random(262)
        for turn in range(40):
            deeds = any_deeds(chance, 3)
            program, other = [any_program(chance, deeds, 2) for one in range(2)]
            self.follow(chance, program, 12, [program, other, turned_about(program)])


class Words(Desks):
    def test_deeds_that_are_called_like_the_words_of_lines(self):
        rule = (0, (FIRST,), ("cell", "a"))
        for words in (("held", "stair", "way", "most"), ("oldest", "text", "alike", "put"), ("back",)):
            program = (("a",), tuple((word, 1) for word in words), ((rule,) * len(words),))
            desk = Desk(show_program(program))
            for word in words:
                self.no_lines(desk, *[word + " 5"] if word not in ("alike", "put") else [])
            for word in ("alike", "put"):
                self.assertEqual(self.refused(desk, NoText, word + " 5").row, 0)
            self.assertEqual(desk.say("held"), "-")
            self.refused(desk, NothingDone, "back")

    def test_deeds_without_numbers_that_are_called_so(self):
        rule = (0, (("none",),), ("none",))
        for words in (("held", "stair", "way", "most"), ("oldest", "text", "alike", "put"), ("back",)):
            program = (("a",), tuple((word, 0) for word in words), ((rule,) * len(words),))
            desk = Desk(show_program(program))
            self.assertEqual(self.state(desk), ["-", "0.0.0", "0", "never", line_of(program)])
            self.refused(desk, NothingDone, "back")
            self.no_lines(desk, "way", "alike", "put")

    def test_put_of_pair_is_no_deed_done(self):
        desk = Desk(show_program(PAIR))
        self.assertEqual(self.refused(desk, NoText, "put 4 4").row, 0)
        self.assertEqual(desk.say("held"), "-")

    def test_other_words_are_names(self):
        deeds = (("say", 0), ("done", 1), ("never", 0), ("ever", 0))
        program = ((), deeds, (tuple((0, (), FIRST if many else None) for name, many in deeds),))
        desk = Desk(show_program(program))
        self.assertEqual([desk.say(line) for line in ("say", "done 4", "never", "ever")], ["-", "4@1.0", "-", "-"])


class Refused(Desks):
    def test_anything(self):
        desk = Desk(show_program(SECONDS))
        desk.say("push 5")
        for thing in ANYTHING:
            self.no_lines(desk, thing)
        self.no_lines(desk, b"held", ["held"], ("push", 5), ("ask",), {"held": 1})

    def test_no_lines(self):
        desk = Desk(show_program(SECONDS))
        desk.say("push 5")
        self.no_lines(desk, "", " ", "ask ", " ask", "ask 1", "Ask", "ask\n", "\nask", "ask\nask", "ask, ask", "push",
                      "push ", "push  5", "push 5 ", " push 5", "push 5 6", "push a", "push 05", "push 00", "push -0",
                      "push -05", "push +5", "push --5", "push 5.", "push -", "push " + "7" * 71, "push -" + "7" * 71,
                      "pull 5", "push 5, ask", "push 5\n", "-", "none", "5@0.0", "say ask")

    def test_words_alone(self):
        desk = Desk(show_program(SECONDS))
        for word in ("held", "stair", "most", "oldest", "text", "back"):
            self.no_lines(desk, word + " ", " " + word, word + " 5", word.upper(), word + "\n", word + "s", word + " -")
        self.no_lines(desk, "alike", "put", "way", " alike x", " put x", "Alike x", "alikex", "alike/", "put\n")

    def test_lines_with_a_line_feed(self):
        desk = Desk(show_program(SECONDS))
        for word in ("alike ", "put "):
            self.no_lines(desk, word + show_program(SECONDS), word + "\n", word + line_of(SECONDS) + "\n",
                          "\n" + word + line_of(SECONDS))

    def test_notes_that_are_not_written_so(self):
        desk = Desk(show_program(SECONDS))
        desk.say("push 5")
        self.no_lines(desk, "way", "way ", "way  5@0.0", "way 5@0.0 ", "way none", "way -", "way 5", "way 5@0",
                      "way 5@0.", "way @0.0", "way 5@.0", "way 5@0.2", "way 5@0.00", "way 5@00.0", "way 05@0.0",
                      "way -0@0.0", "way 5@-1.0", "way 5@0.-0", "way 5@0.0.0", "way 5@0@0.0", "way 5.0@0.0",
                      "way 5,0.0", "way a@0.0", "way 5@0.0, 5@0.0", "way 5@0.0 5@0.0", "way (5, 0, 0)",
                      "way " + "7" * 71 + "@0.0", "way 5@" + "7" * 71 + ".0", "way 5@0.0\n", "way 5@0.1a", "way +5@0.0")

    def test_notes_that_are_not_held(self):
        desk = Desk(show_program(SECONDS))
        for line, note in (("way 5@0.0", (5, 0, 0)), ("way -5@12.1", (-5, 12, 1)),
                           ("way -" + "7" * 70 + "@" + "7" * 70 + ".0", (-int("7" * 70), int("7" * 70), 0))):
            self.assertEqual(self.refused(desk, NotHeld, line).note, note)
        desk.say("push 5"), desk.say("push 6"), desk.say("push 7")
        self.assertEqual(self.refused(desk, NotHeld, "way 5@0.0").note, (5, 0, 0))
        self.assertEqual(desk.say("way 6@1.0"), "ask")

    def test_texts(self):
        desk = Desk(show_program(SECONDS))
        for word in ("alike ", "put "):
            for text, row in (("", 0), (" ", 0), ("cells", 1), ("cells / ", 1), ("cells /", 0), ("/ cells", 0),
                              (" / ", 0), ("cells / deed x 0 / mode / on x 1", 4),
                              ("cells / deed x 0 / mode / on x 0 / ", 4),
                              ("cells / deed x 3 / mode", 1), ("cells  / deed x 0 / mode / on x 0", 0),
                              ("cells / / deed x 0", 1), ("cells /  / deed x 0 / mode / on x 0", 1), ("none", 0),
                              ("cells / deed x 0 / mode / on x 0 / tell came0", 4)):
                self.assertEqual(self.refused(desk, NoText, word + text).row, row, text)

    def test_other_deeds(self):
        for one, other in other_deeds():
            desk = Desk(show_program(one))
            for word in ("alike ", "put "):
                self.refused(desk, NoPair, word + line_of(other))

    def test_no_place(self):
        desk = Desk(show_program(GREATEST))
        desk.say("top 5")
        self.refused(desk, NoPlace, "put " + line_of(LAST))
        self.assertEqual(desk.say("back"), "done")
        self.refused(desk, NothingDone, "back")

    def test_what_was_asked_is_nothing_to_take_back(self):
        desk = Desk(show_program(SECONDS))
        self.state(desk), desk.say("alike " + line_of(SECONDS))
        self.refused(desk, NothingDone, "back")
        desk.say("push 1"), desk.say("way 1@0.0"), desk.say("held")
        self.assertEqual(desk.say("back"), "done")
        self.refused(desk, NothingDone, "back")

    def test_too_many_stands(self):
        desk = Desk(show_program(WIDE))
        with self.assertRaises(TooMany) as caught:
            desk.say("most")
        self.assertEqual(caught.exception.most, 2000)
        self.assertEqual([desk.say(line) for line in ("one 5", "first", "held")], ["-", "5@0.0", "-"])

    def test_no_program(self):
        for text in [thing for thing in ANYTHING if type(thing) is not str] + ["", "cells a b a", line_of(SECONDS)]:
            with self.assertRaises(NoText) as caught:
                Desk(text)
            self.assertEqual(caught.exception.row, 0)
        with self.assertRaises(NoText) as caught:
            Desk("cells a\ndeed x 0\nmode\non x 1")
        self.assertEqual(caught.exception.row, 4)


class Handed(unittest.TestCase):
    def test_names(self):
        self.assertEqual(list(inspect.signature(Desk).parameters), ["text"])
        self.assertEqual(list(inspect.signature(vars(Desk)["say"]).parameters), ["self", "line"])
        self.assertEqual(Desk(text=show_program(NOTHING)).say(line="ask"), "-")

    def test_texts_alone_are_told(self):
        desk = Desk(show_program(SECONDS))
        for line in ("push 5", "ask", "held", "stair", "way 5@0.0", "most", "oldest", "text",
                     "alike " + line_of(SECONDS), "put " + line_of(SECONDS), "back"):
            self.assertIs(type(desk.say(line)), str)
            self.assertNotIn("\n", desk.say(line))

    def test_two_desks(self):
        one, other = Desk(show_program(SECONDS)), Desk(show_program(SECONDS))
        one.say("push 5")
        self.assertEqual((one.say("held"), other.say("held")), ("5@0.0", "-"))


if __name__ == "__main__":
    unittest.main()
