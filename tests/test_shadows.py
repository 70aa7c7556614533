import itertools
import random
import unittest

from stilltold.errors import NoDeed, NotLet
from stilltold.shadows import bit_deeds, cast, first_shadow, is_shadow, under
from tests.helper import (ANYTHING, ECHO, GREATEST, HUGE, MIDDLE, NOTHING, ORDER, PAIR, PROGRAMS, Judges,
                          all_shadows, any_guard, any_program, bare_program, cast_by_counting, judged_shadow,
                          kept_as_is, nearly, whole)


class Under(unittest.TestCase):
    def test_no_lesser_than_the_bar(self):
        bar = (5, 3, 0)
        self.assertEqual(under(((5, 3, 0),), bar), (1,))
        self.assertEqual(under(((5, 3, 1), (5, 4, 0), (6, 0, 0), (HUGE, 0, 0)), bar), (1, 1, 1, 1))
        self.assertEqual(under(((5, 2, 1), (4, 9, 1), (-HUGE, 9, 1), ()), bar), (0, 0, 0, 0))
        self.assertEqual(under(((), (7, 0, 0), (5, 3, 0), (5, 2, 0)), bar), (0, 1, 1, 0))

    def test_none_is_0_under_each_bar(self):
        for bar in ((-HUGE, 0, 0), (0, 0, 0), (HUGE, 5, 1)):
            self.assertEqual(under(((), ()), bar), (0, 0))
        self.assertEqual(under((), (0, 0, 0)), ())

    def test_whole_numbers_are_told(self):
        bits = under(((5, 3, 0), ()), (5, 3, 0))
        self.assertIs(type(bits), tuple)
        self.assertEqual([type(bit) for bit in bits], [int, int])

    def test_by_names_and_asked_again(self):
        self.assertEqual(under(bar=(1, 0, 0), held=((2, 0, 0),)), (1,))
        self.assertEqual(kept_as_is(self, under, ((2, 0, 0), ()), (1, 0, 0)), (1, 0))


class IsShadow(Judges, unittest.TestCase):
    def test_all_shadows(self):
        for program in PROGRAMS:
            for shadow in all_shadows(program, 1):
                self.yes(is_shadow, program, shadow)
        for shadow in all_shadows(PAIR, 3):
            self.yes(is_shadow, PAIR, shadow, guard=ORDER)
            self.assertIs(is_shadow(PAIR, shadow), shadow[0] == 0)
            self.assertIs(is_shadow(PAIR, shadow, guard=ORDER[:1]), shadow[0] == 0)

    def test_places_and_modes_beyond(self):
        for number in (-HUGE, -1, 0, 1, 2, 3, 4, HUGE):
            self.assertIs(is_shadow(PAIR, (number, 0, (0, 0))), number == 0)
            self.assertIs(is_shadow(PAIR, (number, 0, (0, 0)), guard=ORDER), number in (0, 1, 2))
            self.assertIs(is_shadow(PAIR, (0, number, (0, 0))), number in (0, 1))
            self.assertIs(is_shadow(PAIR, (0, 0, (0, number)), guard=ORDER), number in (0, 1))
            self.assertIs(is_shadow(PAIR, (0, 0, (number, 0)), guard=ORDER), number in (0, 1))

    def test_truths(self):
        for truth in (True, False):
            for shadow in ((truth, 0, (0, 0)), (0, truth, (0, 0)), (0, 0, (truth, 0)), (0, 0, (0, truth))):
                self.no(is_shadow, PAIR, shadow)
                self.no(is_shadow, PAIR, shadow, guard=ORDER)

    def test_as_many_bits_as_cells(self):
        for program in (NOTHING, GREATEST, PAIR, MIDDLE):
            for many in range(6):
                self.assertIs(is_shadow(program, (0, 0, (1,) * many)), many == len(program[0]))

    def test_lists(self):
        for shadow in ([0, 0, (0, 0)], (0, 0, [0, 0]), [0, 0, [0, 0]], [], ([0, 0, (0, 0)],)):
            self.no(is_shadow, PAIR, shadow)

    def test_of_anything(self):
        for thing in ANYTHING:
            for shadow in (thing, (thing, 0, (0, 1)), (0, thing, (0, 1)), (0, 0, thing),
                           (0, 0, (thing, 1)), (0, 0, (1, thing))):
                self.assertIs(is_shadow(PAIR, shadow), judged_shadow(PAIR, shadow, 1), shadow)
                self.assertIs(is_shadow(PAIR, shadow, guard=ORDER), judged_shadow(PAIR, shadow, 3), shadow)
        for program, shadow in ((PAIR, (0, 1, (0, 1))), (PAIR, (2, 1, (1, 1))), (MIDDLE, (0, 0, (0, 1, 0))),
                                (ECHO, (0, 1, ()))):
            for thing in nearly(shadow):
                self.assertIs(is_shadow(program, thing), judged_shadow(program, thing, 1), thing)
        for thing in nearly((2, 1, (0, 1))):
            self.assertIs(is_shadow(PAIR, thing, guard=ORDER), judged_shadow(PAIR, thing, 3), thing)

    def test_by_names_and_asked_again(self):
        self.yes(is_shadow, program=PAIR, thing=(2, 0, (0, 1)), guard=ORDER)
        self.no(is_shadow, thing=(2, 0, (0, 1)), program=PAIR)
        self.yes(is_shadow, PAIR, (0, 0, (0, 1)), guard=None)
        self.assertRaises(TypeError, is_shadow, PAIR, (0, 0, (0, 1)), None)
        self.assertIs(kept_as_is(self, is_shadow, PAIR, [0, [0], {}], guard=ORDER), False)


class FirstShadow(Judges, unittest.TestCase):
    def test_of_programs(self):
        self.assertEqual(first_shadow(NOTHING), (0, 0, ()))
        self.assertEqual(first_shadow(GREATEST), (0, 0, (0,)))
        self.assertEqual(first_shadow(MIDDLE), (0, 0, (0, 0, 0)))
        self.assertEqual(first_shadow(bare_program(tuple("abcdef"), (("x", 2),), 3)), (0, 0, (0,) * 6))
        for program in PROGRAMS:
            self.yes(is_shadow, program, first_shadow(program))

    def test_by_name_and_asked_again(self):
        self.assertEqual(first_shadow(program=PAIR), (0, 0, (0, 0)))
        self.assertEqual(kept_as_is(self, first_shadow, PAIR), (0, 0, (0, 0)))


class BitDeeds(unittest.TestCase):
    def test_all_and_rising(self):
        self.assertEqual(bit_deeds(NOTHING), (("ask",),))
        self.assertEqual(bit_deeds(ECHO), (("say", 0, 0), ("say", 0, 1), ("say", 1, 0), ("say", 1, 1)))
        self.assertEqual(bit_deeds(GREATEST), (("ask",), ("top", 0), ("top", 1)))
        self.assertEqual(bit_deeds(PAIR), (("one", 0), ("one", 1), ("put", 0, 0), ("put", 0, 1), ("put", 1, 0),
                                           ("put", 1, 1), ("turn",)))
        four = bare_program((), (("z", 1), ("ab", 0), ("b", 2), ("a", 1)), 2)
        self.assertEqual(bit_deeds(four), (("a", 0), ("a", 1), ("ab",), ("b", 0, 0), ("b", 0, 1), ("b", 1, 0),
                                           ("b", 1, 1), ("z", 0), ("z", 1)))

    def test_whole_numbers_in_tuples(self):
        deeds = bit_deeds(PAIR)
        self.assertIs(type(deeds), tuple)
        for deed in deeds:
            self.assertIs(type(deed), tuple)
            self.assertTrue(all(whole(bit) for bit in deed[1:]))

    def test_by_name_and_asked_again(self):
        self.assertEqual(bit_deeds(program=NOTHING), (("ask",),))
        self.assertEqual(kept_as_is(self, bit_deeds, GREATEST), (("ask",), ("top", 0), ("top", 1)))


class Cast(unittest.TestCase):
    def test_by_hand(self):
        for shadow, deed, told in (
                ((0, 0, (0, 0)), ("put", 1, 0), (1, (0, 0, (1, 0)))),
                ((0, 0, (1, 1)), ("put", 0, 0), (0, (0, 0, (0, 0)))),
                ((0, 0, (0, 1)), ("turn",), (None, (0, 1, (1, 0)))),
                ((0, 1, (0, 1)), ("turn",), (0, (0, 0, (1, 0)))),
                ((0, 1, (1, 0)), ("turn",), (1, (0, 0, (0, 1)))),
                ((0, 0, (1, 1)), ("one", 0), (0, (0, 0, (0, 1)))),
                ((0, 1, (1, 1)), ("one", 0), (0, (0, 0, (1, 0)))),
                ((0, 1, (1, 1)), ("one", 1), (1, (0, 0, (1, 0)))),
                ((0, 1, (0, 1)), ("put", 1, 1), (None, (0, 1, (1, 1)))),
                ((0, 1, (0, 0)), ("put", 1, 1), (None, (0, 1, (1, 0))))):
            self.assertEqual(cast(PAIR, shadow, deed), told)
            self.assertEqual(cast(PAIR, shadow, deed, guard=None), told)

    def test_none_is_0(self):
        program = (("a",), (("ask", 1),), (((0, (("none",),), ("greatest", (("none",), ("came", 0)))),),))
        self.assertEqual(cast(program, (0, 0, (1,)), ("ask", 0)), (0, (0, 0, (0,))))
        self.assertEqual(cast(program, (0, 0, (1,)), ("ask", 1)), (1, (0, 0, (0,))))

    def test_places(self):
        self.assertEqual(cast(PAIR, (0, 0, (0, 0)), ("put", 1, 1), guard=ORDER), (1, (1, 0, (1, 1))))
        self.assertEqual(cast(PAIR, (1, 0, (1, 0)), ("turn",), guard=ORDER), (None, (1, 1, (0, 1))))
        self.assertEqual(cast(PAIR, (1, 0, (1, 1)), ("one", 0), guard=ORDER), (0, (2, 0, (0, 1))))

    def test_at_all_shadows(self):
        for program in PROGRAMS:
            for shadow, deed in itertools.product(all_shadows(program, 1), bit_deeds(program)):
                told = cast(program, shadow, deed)
                self.assertEqual(told, cast_by_counting(program, shadow, deed, None))
                self.assertTrue(is_shadow(program, told[1]))

    def check(self, program, shadow, deed, guard):
        expected = cast_by_counting(program, shadow, deed, guard)
        if expected == "NotLet":
            with self.assertRaises(NotLet) as caught:
                cast(program, shadow, deed, guard=guard)
            self.assertIs(caught.exception.deed, deed)
        else:
            answer, behind = cast(program, shadow, deed, guard=guard)
            self.assertEqual((answer, behind), expected)
            self.assertTrue(answer is None or whole(answer))
            self.assertTrue(is_shadow(program, behind, guard=guard))

    def test_at_all_shadows_of_programs_by_chance(self):
        chance = random.Random(12)
        for turn in range(40):
            program = any_program(chance)
            guard = any_guard(chance, program[1])
            for shadow, deed in itertools.product(all_shadows(program, len(guard)), bit_deeds(program)):
                self.check(program, shadow, deed, guard)
        for shadow, deed in itertools.product(all_shadows(PAIR, 3), bit_deeds(PAIR)):
            self.check(PAIR, shadow, deed, ORDER)

    def test_no_bit_deed(self):
        bad = [("one", 2), ("one", -1), ("one", HUGE), ("one", True), ("one", False), ("one", None), ("one", "1"),
               ("one", (1,)), ("one", [1]), ("one",), ("one", 1, 0), ("put", 1), ("put", 1, 1, 1), ("put", 1, True),
               ("put", 2, 0), ("put", 0, -1), ("turn", 0), ("two", 1), ("", 1), (), ["one", 1], ["turn"], "turn",
               ("turn", ()), (1, "one"), (["turn"],), ({},), {"turn": 1}, (("turn",),)]
        for deed in bad + list(ANYTHING):
            for guard in (None, ORDER, ((None, None, None),) * 3):
                with self.assertRaises(NoDeed) as caught:
                    cast(PAIR, (0, 1, (0, 1)), deed, guard=guard)
                self.assertIs(caught.exception.deed, deed)

    def test_not_let(self):
        for place, deed in ((0, ("turn",)), (0, ("one", 1)), (1, ("put", 0, 1)), (2, ("turn",)), (2, ("put", 1, 1))):
            with self.assertRaises(NotLet) as caught:
                cast(PAIR, (place, 0, (0, 1)), deed, guard=ORDER)
            self.assertIs(caught.exception.deed, deed)

    def test_by_names_and_asked_again(self):
        told = (1, (1, 0, (1, 1)))
        self.assertEqual(cast(deed=("put", 1, 1), guard=ORDER, shadow=(0, 0, (0, 0)), program=PAIR), told)
        self.assertEqual(kept_as_is(self, cast, PAIR, (0, 0, (0, 0)), ("put", 1, 1), guard=ORDER), told)
        self.assertRaises(TypeError, cast, PAIR, (0, 0, (0, 0)), ("put", 1, 1), ORDER)


if __name__ == "__main__":
    unittest.main()
