import inspect
import itertools
import random
import unittest

from stilltold.errors import NoPair
from stilltold.likeness import table
from stilltold.tablelooks import shows_table
from tests.helper import (ANYTHING, ECHO, GREATEST, HUGE, JUDGED, NOTHING, ORDER, PAIR, PATIENT, SECONDS, TURNS, TWINS,
                          Judges, Plain, any_deeds, any_guard, any_program, kept_as_is, nearly, other_deeds,
                          same_telling, turned_about, with_idle_cell)

ZERO, ONE = (0, 0, (0,)), (0, 0, (1,))


class ShowsTable(Judges, unittest.TestCase):
    def look(self, plain, thing):
        told = shows_table(plain.one, plain.other, thing, guard=plain.guard)
        self.assertIs(told, plain.is_table(thing), thing)
        return told

    def cases(self):
        """Two programs, a guard, and tables of theirs."""
        for one, other, guard in ((GREATEST, GREATEST, None), (GREATEST, with_idle_cell(GREATEST), None),
                                  (NOTHING, NOTHING, None), (ECHO, ECHO, None), (PATIENT, PATIENT, None),
                                  (PAIR, turned_about(PAIR), ORDER), (SECONDS, SECONDS, TWINS),
                                  (SECONDS, turned_about(SECONDS), TURNS)):
            plain = Plain(one, other, guard)
            yield plain, sorted({plain.led_to(pair) for pair in plain.like}, key=lambda found: (len(found), found))

    def test_by_hand(self):
        self.yes(shows_table, GREATEST, GREATEST, ())
        self.yes(shows_table, GREATEST, GREATEST, ((ONE, ONE),))
        self.yes(shows_table, GREATEST, GREATEST, ((ZERO, ZERO), (ONE, ONE)))
        # The pair behind a push of 1 isn't in it.
        self.no(shows_table, GREATEST, GREATEST, ((ZERO, ZERO),))
        self.no(shows_table, GREATEST, GREATEST, ((ZERO, ONE), (ONE, ONE)))
        self.no(shows_table, GREATEST, GREATEST, ((ONE, ONE), (ZERO, ZERO)))
        self.no(shows_table, GREATEST, GREATEST, ((ONE, ONE), (ONE, ONE)))

    def test_none_is_one_of_all(self):
        for program in JUDGED:
            for other in same_telling(program):
                self.yes(shows_table, program, other, ())
        self.yes(shows_table, PAIR, PAIR, (), guard=ORDER)

    def test_least_tables(self):
        for plain, tables in self.cases():
            for pair in sorted(plain.like):
                self.yes(shows_table, plain.one, plain.other,
                         table(plain.one, pair[0], plain.other, pair[1], guard=plain.guard), guard=plain.guard)

    def test_tables_put_together(self):
        for plain, tables in self.cases():
            for one, other in itertools.combinations(tables[:8] + tables[-4:], 2):
                self.yes(shows_table, plain.one, plain.other, tuple(sorted(set(one + other))), guard=plain.guard)
            self.yes(shows_table, plain.one, plain.other, tuple(sorted(plain.like)), guard=plain.guard)

    def test_without_one_pair(self):
        for plain, tables in self.cases():
            for found in tables:
                for at in range(len(found)):
                    self.look(plain, found[:at] + found[at + 1:])

    def test_twice_or_in_another_order(self):
        for plain, tables in self.cases():
            for found in tables:
                for at in range(len(found)):
                    self.no(shows_table, plain.one, plain.other, found[:at + 1] + found[at:], guard=plain.guard)
                if len(found) > 1:
                    self.no(shows_table, plain.one, plain.other, found[::-1], guard=plain.guard)
                    self.no(shows_table, plain.one, plain.other, found[1:] + found[:1], guard=plain.guard)

    def test_turned_about(self):
        idle = with_idle_cell(GREATEST)
        found = table(GREATEST, ZERO, idle, (0, 0, (0, 0)))
        self.yes(shows_table, GREATEST, idle, found)
        self.no(shows_table, idle, GREATEST, found)
        self.yes(shows_table, idle, GREATEST, tuple(sorted(pair[::-1] for pair in found)))
        for plain, tables in self.cases():
            for found in tables:
                self.look(plain, tuple(pair[::-1] for pair in found))
                self.look(plain, tuple(sorted(pair[::-1] for pair in found)))

    def test_nearly_tables(self):
        for plain, tables in self.cases():
            for found in tables[:3]:
                for thing in nearly(found[:4]):
                    self.look(plain, thing)
        found = table(SECONDS, (0, 0, (0, 0)), SECONDS, (0, 0, (0, 0)))
        plain = Plain(SECONDS, SECONDS)
        self.assertTrue(self.look(plain, found))
        for thing in nearly(found):
            self.look(plain, thing)

    def test_one_number_otherwise(self):
        foreign = (0, 1, 2, 3, 4, -1, HUGE, True, False, "0", "1", None, (0,), [0])
        for plain, tables in self.cases():
            for found in tables[:4]:
                for thing in nearly(found, foreign):
                    self.look(plain, thing)

    def test_truths_are_no_numbers(self):
        self.no(shows_table, GREATEST, GREATEST, (((0, 0, (True,)), ONE),))
        self.no(shows_table, GREATEST, GREATEST, ((ONE, (0, False, (1,))),))
        self.no(shows_table, GREATEST, GREATEST, ((ONE, (False, 0, (1,))),))

    def test_lists_are_no_tuples(self):
        for thing in ([], [(ONE, ONE)], ([ONE, ONE],), (([0, 0, (1,)], ONE),), ((ONE, (0, 0, [1])),)):
            self.no(shows_table, GREATEST, GREATEST, thing)

    def test_places_beyond_the_guard(self):
        shut = ((None, None, None),) * 3
        for place in range(5):
            pair = ((place, 0, (0, 0)), (place, 0, (1, 1)))
            self.assertIs(shows_table(SECONDS, SECONDS, (pair,), guard=shut), place < 3)
            self.assertIs(shows_table(SECONDS, SECONDS, (pair,), guard=shut[:1]), place < 1)

    def test_a_deed_let_from_just_one(self):
        plain = Plain(SECONDS, SECONDS, TURNS)
        pairs = [((place, 0, (0, 0)), (its, 0, (0, 0))) for place in range(3) for its in range(3)]
        for many in (1, 2, 3):
            for things in itertools.combinations(pairs, many):
                self.look(plain, things)

    def test_of_anything(self):
        for one, other, guard in ((GREATEST, GREATEST, None), (SECONDS, turned_about(SECONDS), TURNS)):
            plain = Plain(one, other, guard)
            for thing in ANYTHING:
                for wrapped in (thing, (thing,), ((thing, thing),), ((ONE, thing),), (((0, 0, thing), ONE),),
                                ((ONE, ONE), thing), ((ONE, (0, 0, (thing,))),)):
                    self.look(plain, wrapped)

    def test_all_small_sets_of_pairs(self):
        plain = Plain(GREATEST, GREATEST)
        pairs = list(itertools.product((ZERO, ONE), repeat=2))
        for many in range(5):
            for things in itertools.permutations(pairs, many):
                self.look(plain, things)

    def test_by_chance(self):
        chance = random.Random(55)
        shown = 0
        for turn in range(150):
            deeds = any_deeds(chance, 2)
            one = any_program(chance, deeds, 2)
            other = chance.choice((one, turned_about(one), any_program(chance, deeds, 2)))
            guard = chance.choice((None, any_guard(chance, deeds)))
            plain = Plain(one, other, guard)
            pairs = sorted(plain.like) + [(chance.choice(list(plain.moves[0])), chance.choice(list(plain.moves[1])))]
            for times in range(6):
                chosen = set(chance.sample(pairs, min(len(pairs), chance.randint(1, 2))))
                chosen |= set(plain.led_to(chance.choice(sorted(plain.like)))) if plain.like else set()
                shown += self.look(plain, tuple(sorted(chosen)))
        self.assertGreater(shown, 50)

    def test_no_pair(self):
        for one, other in other_deeds():
            for thing in ANYTHING:
                self.assertRaises(NoPair, shows_table, one, other, thing)
                self.assertRaises(NoPair, shows_table, one, other, thing, guard=thing)

    def test_by_names_and_asked_again(self):
        names = inspect.signature(shows_table).parameters
        self.assertEqual(list(names), ["one", "other", "thing", "guard"])
        found = table(PAIR, (0, 0, (0, 0)), PAIR, (0, 0, (0, 0)), guard=ORDER)
        self.yes(shows_table, guard=ORDER, thing=found, other=PAIR, one=PAIR)
        self.no(shows_table, PAIR, PAIR, found, guard=None)
        self.assertIs(kept_as_is(self, shows_table, PAIR, PAIR, found, guard=ORDER), True)
        self.assertIs(kept_as_is(self, shows_table, PAIR, PAIR, [[1], {}], guard=ORDER), False)
        self.assertRaises(TypeError, shows_table, PAIR, PAIR, (), ORDER)


if __name__ == "__main__":
    unittest.main()
