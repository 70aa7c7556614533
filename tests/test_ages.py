import inspect
import random
import unittest

from stilltold.ages import oldest, shows_oldest
from stilltold.runs import is_history, told
from stilltold.stairs import stair_of
from tests.helper import (ANYTHING, BOTH_ENDS, ECHO, FIRST, GREATEST, HUGE, JUDGED, LAST, MIDDLE, NOTHING, OLD, ONCE,
                          ORDER, PAIR, PATIENT, SECONDS, TURNS, TWINS, Judges, Plain, any_choice, any_deeds, any_guard,
                          any_history, any_program, best, falling_out, goings_on, kept_as_is, nearly, same_telling,
                          stair_by_words, whole)

# Often enough for a ring of the small programs here: behind so many a note that is still held is held for ever.
OFTEN = 40
GUARDED = ((PAIR, ORDER), (SECONDS, TURNS), (SECONDS, TWINS), (GREATEST, ONCE), (LAST, ONCE),
           (PAIR, ((0, 1, 1), (None, 0, 1))), (MIDDLE, ((1, None), (2, 0), (None, 0))), (MIDDLE, ((0, None),)))
FREE = tuple((program, None) for program in (MIDDLE, SECONDS, PAIR, GREATEST, OLD))

# The best so far, which a bell tells and clears.
BELL = (("top",), (("push", 1), ("bell", 0)),
        (((0, (("greatest", (("cell", "top"), FIRST)),), None), (0, (("none",),), ("cell", "top"))),))
# The same where the third push at the latest rings.
RINGS = (("top",), (("push", 1),),
         (((1, (FIRST,), None),), ((2, (("greatest", (("cell", "top"), FIRST)),), None),),
          ((0, (("none",),), ("greatest", (("cell", "top"), FIRST))),)))


class Ages(Judges, unittest.TestCase):
    def age(self, program, history):
        """The age of the note that the last deed tells, None where it tells none."""
        answer = told(program, history)[-1] if history else None
        return len(history) - 1 - answer[1] if answer else None

    def greatest(self, plain):
        """"never", the greatest age, or "ever": the pairs of shadows up to a note and above it, age by age."""
        ages, seen, age = [], [], 0
        level, tells = self.births(plain)
        while (level, tells) not in seen:
            seen.append((level, tells))
            ages += [age] if tells else []
            level, tells = self.older(plain, level)
            age += 1
        begin = seen.index((level, tells))
        if any(telling for pairs, telling in seen[begin:]):
            return "ever"
        return ages[-1] if ages else "never"

    def births(self, plain):
        """(all pairs of shadows of a note that just came, whether some of these were told at once)."""
        found, left = set(), [(0, 0, (0,) * len(plain.one[0]))]
        pairs, tells = set(), False
        while left:
            shadow = left.pop()
            found.add(shadow)
            moves = dict(zip(plain.deeds, plain.moves[0][shadow]))
            left += [move[1] for move in moves.values() if move != "NotLet" and move[1] not in found]
            for deed in plain.deeds:
                for at in range(1, len(deed)):
                    low, high = moves[deed[:at] + (1,) + deed[at + 1:]], moves[deed[:at] + (0,) + deed[at + 1:]]
                    if low != "NotLet":
                        pairs.add((low[1], high[1]))
                        tells = tells or (low[0], high[0]) == (1, 0)
        return pairs, tells

    def older(self, plain, pairs):
        """(the pairs one deed later, whether some deed told the note)."""
        behind, tells = set(), False
        for one, other in pairs:
            for low, high in zip(plain.moves[0][one], plain.moves[0][other]):
                if low != "NotLet":
                    behind.add((low[1], high[1]))
                    tells = tells or (low[0], high[0]) == (1, 0)
        return behind, tells

    def judged(self, plain, thing, greatest):
        """Of anything, whether it is as oldest tells, by the document's words."""
        if type(thing) is not tuple or not thing or type(thing[0]) is not str:
            return False
        if thing[0] == "never":
            return len(thing) == 1 and greatest == "never"
        if len(thing) != 3 or thing[0] not in ("age", "ever"):
            return False
        if thing[0] == "age":
            return (whole(thing[1]) and thing[1] == greatest and is_history(plain.one, thing[2], guard=plain.guard)
                    and self.age(plain.one, thing[2]) == thing[1])
        return self.held_for_ever(plain, thing[1], thing[2])

    def held_for_ever(self, plain, begin, ring):
        if type(begin) is not tuple or type(ring) is not tuple or ring == ():
            return False
        if not is_history(plain.one, begin + ring * OFTEN, guard=plain.guard):
            return False
        return any(at < len(begin) for number, at, place in stair_by_words(plain, begin + ring * OFTEN)[1])

    def follow(self, program, guard=None, most=0, numbers=range(3)):
        """What is told is right, and no short history tells an older note."""
        plain = Plain(program, program, guard)
        found = oldest(program, guard=guard)
        greatest = self.greatest(plain)
        self.assertEqual(found[1] if found[0] == "age" else found[0], greatest)
        self.assertTrue(self.judged(plain, found, greatest), found)
        self.yes(shows_oldest, program, found, guard=guard)
        for many in range(1, most + 1):
            for history in goings_on(program, 0, many, numbers, guard):
                age = self.age(program, history)
                if age is not None and greatest != "ever":
                    self.assertLessEqual(age, -1 if greatest == "never" else greatest)
        return found


class ByHand(Ages):
    def test_never(self):
        none = (("a",), (("push", 1), ("ask", 0)), (((0, (FIRST,), ("none",)), (0, (None,), None)),))
        below = (("a",), (("push", 1), ("ask", 0)),
                 (((0, (FIRST,), None), (0, (None,), ("least", (("none",), ("cell", "a"))))),))
        for program in (NOTHING, none, below):
            self.assertEqual(oldest(program), ("never",))
            self.yes(shows_oldest, program, ("never",))
        self.assertEqual(oldest(GREATEST, guard=((0, None),)), ("never",))
        self.assertEqual(oldest(GREATEST, guard=((None, 0),)), ("never",))
        self.assertEqual(oldest(SECONDS, guard=TWINS), ("never",))
        self.assertEqual(oldest(MIDDLE, guard=((None, None),)), ("never",))
        self.no(shows_oldest, GREATEST, ("never",))
        self.no(shows_oldest, ECHO, ("never",))

    def test_its_own_number(self):
        kind, many, history = oldest(ECHO)
        self.assertEqual((kind, many, len(history)), ("age", 0, 1))
        self.yes(shows_oldest, ECHO, ("age", 0, (("say", 5, 7),)))
        self.yes(shows_oldest, ECHO, ("age", 0, (("say", 5, 7), ("say", HUGE, -HUGE))))
        self.no(shows_oldest, ECHO, ("age", 0, ()))
        self.no(shows_oldest, ECHO, ("age", 1, (("say", 5, 7), ("say", 5, 7))))

    def test_a_window_told_by_pushing(self):
        for many in range(1, 7):
            program = falling_out(many)
            kind, age, history = oldest(program)
            self.assertEqual((kind, age), ("age", many))
            self.assertEqual(self.age(program, history), many)
            pushes = tuple(("push", -number) for number in range(many + 3))
            self.yes(shows_oldest, program, ("age", many, pushes))
            self.no(shows_oldest, program, ("age", many, pushes[:many]))
            self.no(shows_oldest, program, ("age", many + 1, pushes))
            self.no(shows_oldest, program, ("age", many - 1, pushes))
            self.no(shows_oldest, program, ("ever", pushes, pushes))

    def test_a_window_told_by_asking(self):
        # One can wait with asking as long as one likes.
        kind, begin, ring = self.follow(MIDDLE)
        self.assertEqual(kind, "ever")
        self.yes(shows_oldest, MIDDLE, ("ever", (("push", 5),), (("ask",),)))
        self.yes(shows_oldest, MIDDLE, ("ever", (("push", 5), ("ask",)), (("ask",), ("ask",), ("ask",))))
        self.no(shows_oldest, MIDDLE, ("ever", (("push", 5),), (("ask",), ("push", 5))))
        self.no(shows_oldest, MIDDLE, ("ever", (), (("push", 5),)))
        self.no(shows_oldest, MIDDLE, ("ever", (), (("ask",),)))
        self.no(shows_oldest, MIDDLE, ("ever", (("push", 5),), ()))
        self.no(shows_oldest, MIDDLE, ("age", 7, (("push", 5),) + (("ask",),) * 7))

    def test_the_best_so_far(self):
        self.assertEqual(oldest(GREATEST)[0], "ever")
        self.yes(shows_oldest, GREATEST, ("ever", (("top", 5),), (("top", 4),)))
        self.no(shows_oldest, GREATEST, ("ever", (("top", 5),), (("top", 5),)))
        self.no(shows_oldest, GREATEST, ("ever", (("top", 5),), (("top", 6),)))
        self.yes(shows_oldest, GREATEST, ("ever", (("top", 4), ("top", 5), ("ask",)), (("ask",), ("top", -HUGE))))
        self.no(shows_oldest, GREATEST, ("ever", (("top", 4), ("top", 5), ("ask",)), (("ask",), ("top", HUGE))))

    def test_the_best_so_far_with_a_bell(self):
        self.assertEqual(oldest(BELL)[0], "ever")
        self.yes(shows_oldest, BELL, ("ever", (("push", 5),), (("push", 4),)))
        self.no(shows_oldest, BELL, ("ever", (("push", 5),), (("bell",),)))
        self.no(shows_oldest, BELL, ("ever", (("push", 5),), (("push", 4), ("bell",), ("push", 5))))

    def test_a_bell_that_must_ring(self):
        self.assertEqual(self.follow(RINGS)[:2], ("age", 2))
        self.yes(shows_oldest, RINGS, ("age", 2, (("push", 7), ("push", 6), ("push", 5))))
        self.no(shows_oldest, RINGS, ("age", 2, (("push", 7), ("push", 7), ("push", 5))))
        self.no(shows_oldest, RINGS, ("age", 1, (("push", 7), ("push", 7), ("push", 5))))
        # A guard that lets at most one push between two bells.
        guard = ((1, 0), (None, 0))
        self.assertEqual(oldest(BELL, guard=guard)[:2], ("age", 1))
        self.yes(shows_oldest, BELL, ("age", 1, (("bell",), ("push", 7), ("bell",))), guard=guard)
        self.no(shows_oldest, BELL, ("age", 1, (("push", 7), ("bell",), ("push", 7))), guard=guard)
        self.no(shows_oldest, BELL, ("age", 1, (("push", 6), ("push", 7), ("bell",))), guard=guard)

    def test_a_guard_behind_which_nothing_more_is_let(self):
        guard = ((1, None), (2, None), (None, 3), (None, None))
        self.assertEqual(oldest(BELL, guard=guard)[:2], ("age", 2))
        # Of two the middle one is the lesser.
        self.assertEqual(oldest(MIDDLE, guard=guard)[:2], ("age", 2))
        self.yes(shows_oldest, MIDDLE, ("age", 2, (("push", 6), ("push", 7), ("ask",))), guard=guard)
        self.no(shows_oldest, MIDDLE, ("age", 2, (("push", 7), ("push", 6), ("ask",))), guard=guard)
        self.yes(shows_oldest, BELL, ("age", 2, (("push", 7), ("push", 6), ("bell",))), guard=guard)
        self.no(shows_oldest, BELL, ("age", 1, (("push", 6), ("push", 7), ("bell",))), guard=guard)
        self.no(shows_oldest, BELL, ("ever", (("push", 6), ("push", 7)), (("bell",),)), guard=guard)

    def test_a_ring_that_is_let_once_alone(self):
        guard = ((1, 0), (2, 1), (2, None))
        self.yes(shows_oldest, GREATEST, ("ever", (("top", 5),), (("ask",),)), guard=guard)
        self.no(shows_oldest, GREATEST, ("ever", (("top", 5),), (("ask",), ("top", 4))), guard=guard)
        self.no(shows_oldest, GREATEST, ("ever", (("top", 5), ("top", 5)), (("ask",),)), guard=guard)
        # From place 0 the ring itself is not let, and needn't be.
        guard = ((1, None), (None, 1))
        self.yes(shows_oldest, GREATEST, ("ever", (("top", 5),), (("ask",),)), guard=guard)

    def test_a_ring_that_holds_only_for_some_turns(self):
        # Four rings go by until the note is told for the last time.
        program = (("a", "b", "c", "d"), (("push", 1), ("go", 0)),
                   (((0, (FIRST, None, None, None), None),
                     (0, (("none",), ("cell", "a"), ("cell", "b"), ("cell", "c")), ("cell", "d"))),))
        self.no(shows_oldest, program, ("ever", (("push", 1),), (("go",),)))
        self.no(shows_oldest, program, ("ever", (("push", 1), ("go",)), (("go",),)))
        self.yes(shows_oldest, program, ("ever", (("push", 1), ("go",)), (("push", 7),)))

    def test_a_ring_that_turns_what_is_held_about(self):
        program = (("a", "b"), (("push", 1), ("turn", 0), ("ask", 0)),
                   (((0, (FIRST, None), None), (0, (("cell", "b"), ("cell", "a")), None),
                     (0, (None, None), ("cell", "a"))),))
        self.yes(shows_oldest, program, ("ever", (("push", 1),), (("turn",),)))
        self.no(shows_oldest, program, ("ever", (("push", 1),), (("turn",), ("push", 3))))
        self.yes(shows_oldest, program, ("ever", (("push", 1),), (("turn",), ("push", 3), ("turn",))))
        self.follow(program)

    def test_the_note_must_have_come_by_begin(self):
        self.no(shows_oldest, GREATEST, ("ever", (("ask",),), (("top", 5),)))
        self.no(shows_oldest, LAST, ("ever", (("top", 4),), (("top", 5), ("ask",))))
        self.yes(shows_oldest, OLD, ("ever", (("top", 4),), (("top", 5), ("ask",))))

    def test_two_numbers_in_one_deed(self):
        program = (("a",), (("x", 2), ("ask", 0)),
                   (((1, (("least", (FIRST, ("came", 1))),), None), (0, (None,), None)),
                    ((1, (None,), None), (0, (("none",),), ("cell", "a")))))
        self.assertEqual(self.follow(program)[0], "ever")
        guard = ((1, None), (None, 0))
        self.assertEqual(self.follow(program, guard)[:2], ("age", 1))
        self.yes(shows_oldest, program, ("age", 1, (("x", 5, 4), ("ask",))), guard=guard)

    def test_by_a_roundabout_way(self):
        # The deed that comes first as deeds rise leads to the end sooner than the other one.
        keep, tell = (None,), (0, (("none",),), ("cell", "a"))
        for after, greatest in ((3, ("age", 3)), (2, ("ever",)), (1, ("ever",))):
            program = (("a",), (("push", 1), ("end", 0), ("go", 0)),
                       (((1, (FIRST,), None), (0, keep, None), (0, keep, None)),
                        ((0, (("none",),), None), (3, keep, None), (2, keep, None)),
                        ((0, (("none",),), None), (3, keep, None), (after, keep, None)),
                        (tell, tell, tell)))
            self.assertEqual(self.follow(program, most=4)[:len(greatest)], greatest)

    def test_256_shadows(self):
        chance = random.Random(226)
        cells, deeds = tuple("abcdef"), (("x", 2), ("y", 2), ("z", 1), ("w", 0))

        def rule(many):
            becomes = tuple(chance.choice((None, any_choice(chance, cells, many, 3))) for cell in cells)
            return (chance.randrange(4), becomes, any_choice(chance, cells, many, 3))

        for times in range(3):
            program = (cells, deeds, tuple(tuple(rule(many) for name, many in deeds) for mode in range(4)))
            self.yes(shows_oldest, program, oldest(program))

    def test_patient(self):
        self.assertEqual(oldest(PATIENT)[0], "ever")
        self.assertEqual(oldest(PATIENT, guard=((1,), (2,), (3,), (None,))), ("never",))
        end = PATIENT[:2] + (PATIENT[2][:3] + (((0, (("none",),), ("cell", "a")),),),)
        self.assertEqual(self.follow(end)[:2], ("age", 3))


class AllPrograms(Ages):
    def test_of_programs(self):
        for program in JUDGED + (LAST, OLD, BOTH_ENDS, BELL, RINGS, best(3), falling_out(3)):
            for other in same_telling(program)[:4 if len(program[0]) < 3 else 1]:
                self.follow(other)

    def test_with_guards(self):
        for program, guard in GUARDED:
            self.follow(program, guard, 3)

    def test_short_histories(self):
        for program, most in ((ECHO, 3), (RINGS, 5), (falling_out(2), 5), (falling_out(3), 5)):
            self.follow(program, most=most)

    def test_of_programs_by_chance(self):
        chance = random.Random(221)
        kinds = {}
        for turn in range(300):
            program = any_program(chance, any_deeds(chance, 2), 3 if turn % 4 == 0 else 2)
            guard = chance.choice((None, any_guard(chance, program[1])))
            found = self.follow(program, guard, 2 if turn % 3 == 0 else 0)
            kind = found[:2] if found[0] == "age" else found[0]
            kinds[kind] = kinds.get(kind, 0) + 1
        for kind in ("never", "ever", ("age", 0), ("age", 1), ("age", 2)):
            self.assertGreater(kinds.get(kind, 0), 3, kinds)

    def test_with_guards_that_come_to_an_end(self):
        chance = random.Random(222)
        for turn in range(100):
            program = any_program(chance, any_deeds(chance, 3), 2)
            places = chance.randint(2, 4)
            guard = tuple(tuple(chance.choice((None, chance.randint(place, places - 1))) for deed in program[1])
                          for place in range(places))
            self.follow(program, guard, 2)

    def test_behind_each_ring_the_note_is_held(self):
        chance = random.Random(223)
        many = 0
        for turn in range(120):
            program = any_program(chance, any_deeds(chance, 3), 3)
            guard = chance.choice((None, any_guard(chance, program[1])))
            found = oldest(program, guard=guard)
            if found[0] == "ever":
                many += 1
                for times in (0, 1, 2, 3, 7):
                    history = found[1] + found[2] * times
                    notes = stair_of(program, history, guard=guard)[1]
                    self.assertTrue([note for note in notes if note[1] < len(found[1])])
        self.assertGreater(many, 10)


class Looks(Ages):
    def looked(self, program, things, guard=None):
        plain = Plain(program, program, guard)
        greatest = self.greatest(plain)
        told = [shows_oldest(program, thing, guard=guard) for thing in things]
        for thing, answer in zip(things, told):
            self.assertIs(answer, self.judged(plain, thing, greatest), thing)
        return told

    def test_anything(self):
        for program, guard in ((GREATEST, None), (ECHO, None), (NOTHING, None), (PAIR, ORDER)):
            for thing in ANYTHING:
                self.no(shows_oldest, program, thing, guard=guard)
                for word in ("never", "age", "ever"):
                    self.no(shows_oldest, program, (word, thing), guard=guard)
                    self.no(shows_oldest, program, (word, thing, thing), guard=guard)
                    self.no(shows_oldest, program, (word, 0, thing), guard=guard)
                    self.no(shows_oldest, program, (word, (), thing), guard=guard)
                    self.no(shows_oldest, program, (thing, 0, ()), guard=guard)
            for thing in ("never", ["never"], ("Never",), ("never", None), ("never", 0, ()), ("age",), ("ever",)):
                self.no(shows_oldest, program, thing, guard=guard)

    def test_nearly(self):
        foreign = (None, True, False, 0, 1, 2, -1, "", "push", "age", "ever", "never", (), ("ask",), ("push", 1), [])
        for program, guard in ((falling_out(2), None), (MIDDLE, ((1, None), (2, 0), (None, 0))), (GREATEST, None),
                               (GREATEST, ONCE), (BELL, ((1, 0), (None, 0))), (NOTHING, None), (RINGS, None),
                               (MIDDLE, ((1, None), (2, None), (None, 3), (None, None)))):
            found = oldest(program, guard=guard)
            self.looked(program, list(nearly(found, foreign)), guard)
            if found[0] == "age":
                self.no(shows_oldest, program, ("age", bool(found[1]), found[2]), guard=guard)

    def test_rings_by_chance(self):
        chance = random.Random(224)
        many = {True: 0, False: 0}
        for program, guard in FREE + GUARDED:
            things = []
            for times in range(25):
                history = (("put", 1, chance.randint(0, 2)), ("turn",), ("turn",), ("turn",))
                if guard != ORDER:
                    history = any_history(chance, program, chance.randint(2, 6), guard)
                cut = chance.randint(0, len(history) - 1)
                things.append(("ever", history[:cut], history[cut:]))
            for answer in self.looked(program, things, guard):
                many[answer] += 1
        self.assertGreater(min(many.values()), 60)

    def test_ages_by_chance(self):
        chance = random.Random(225)
        many = {True: 0, False: 0}
        for program in (falling_out(2), RINGS, ECHO):
            histories = [any_history(chance, program, chance.randint(1, 6)) for times in range(40)]
            things = [("age", age, history) for history in histories for age in range(4)]
            for answer in self.looked(program, things):
                many[answer] += 1
        self.assertGreater(min(many.values()), 40)

    def test_a_history_that_is_not_let(self):
        guard = ((1, 0), (None, 0))
        history = oldest(BELL, guard=guard)[2]
        self.yes(shows_oldest, BELL, ("age", 1, history), guard=guard)
        self.no(shows_oldest, BELL, ("age", 1, (("push", 3), ("push", 2), ("bell",), ) + history), guard=guard)
        self.no(shows_oldest, BELL, ("age", 1, history))

    def test_long_histories(self):
        begin = tuple(("push", number) for number in range(150))
        self.yes(shows_oldest, MIDDLE, ("ever", begin, (("ask",),) * 150))
        self.no(shows_oldest, MIDDLE, ("ever", begin, (("ask",),) * 149 + (("push", -1),)))
        self.yes(shows_oldest, falling_out(6), ("age", 6, begin))


class Handed(unittest.TestCase):
    def test_names(self):
        for function, names in ((oldest, ["program", "guard"]), (shows_oldest, ["program", "thing", "guard"])):
            parameters = inspect.signature(function).parameters
            self.assertEqual(list(parameters), names)
            self.assertEqual(parameters["guard"].kind, inspect.Parameter.KEYWORD_ONLY)
            self.assertIsNone(parameters["guard"].default)

    def test_by_names_and_asked_again(self):
        found = kept_as_is(self, oldest, SECONDS, guard=TURNS)
        self.assertEqual(oldest(guard=TURNS, program=SECONDS), found)
        self.assertIs(kept_as_is(self, shows_oldest, SECONDS, found, guard=TURNS), True)
        self.assertIs(shows_oldest(guard=TURNS, thing=found, program=SECONDS), True)
        self.assertIs(kept_as_is(self, shows_oldest, SECONDS, list(found), guard=TURNS), False)

    def test_tuples_all_through(self):
        for program in (MIDDLE, falling_out(3), ECHO, NOTHING):
            hash(oldest(program))
            self.assertIs(type(oldest(program)), tuple)


if __name__ == "__main__":
    unittest.main()
