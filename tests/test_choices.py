import itertools
import unittest

from stilltold.choices import chosen, is_choice
from tests.helper import ANYTHING, HUGE, Judges, chosen_by_counting, judged_choice, kept_as_is, measured, nearly, nested

NONE = ("none",)
A = ("cell", "a")
B = ("cell", "b")
CAME = ("came", 0)
LATER = ("came", 1)
CELLS = ("a", "b")
SIX = (NONE, A, LATER, ("kth", 2, (A, B, CAME)), ("greatest", (A, CAME)), ("least", (B, LATER, NONE)))


def deep(depth):
    """A choice of this depth."""
    return nested(depth - 1, lambda thing: ("least", (thing or NONE,))) or NONE


def large(size):
    """A choice of this size, from 59 to 63, of depth 4."""
    rows = [("greatest", (NONE,) * 5)] * 9 + [("greatest", (NONE,) * (size - 58))]
    return ("kth", 1, (("least", tuple(rows[:5])), ("least", tuple(rows[5:]))))


class IsChoice(Judges, unittest.TestCase):
    def as_judged(self, cells, many, thing):
        self.assertIs(is_choice(cells, many, thing), judged_choice(cells, many, thing), (cells, many, thing))

    def test_each_form(self):
        for choice in SIX:
            self.yes(is_choice, CELLS, 2, choice)
        self.yes(is_choice, CELLS, 1, CAME)
        self.yes(is_choice, (), 0, NONE)

    def test_nested(self):
        self.yes(is_choice, CELLS, 2, ("greatest", SIX[1:]))
        self.yes(is_choice, CELLS, 2, ("kth", 1, (("least", (("greatest", (NONE,)),)), SIX[3])))
        self.no(is_choice, CELLS, 2, ("kth", 1, (("least", (("greatest", (("none", 1),)),)), SIX[3])))
        self.no(is_choice, CELLS, 2, ("greatest", (NONE, ("least", (NONE, ("cell", "c"))))))

    def test_nearly_each_form(self):
        for choice in SIX + (("greatest", (("least", (A,)), CAME)),):
            for thing in nearly(choice):
                for cells, many in ((CELLS, 2), (("a",), 1), ((), 0)):
                    self.as_judged(cells, many, thing)

    def test_a_part_left_out_twice_put_in(self):
        for choice in SIX:
            for at, part in enumerate(choice):
                self.no(is_choice, CELLS, 2, choice[:at] + choice[at + 1:])
                self.no(is_choice, CELLS, 2, choice[:at] + (part,) + choice[at:])
                self.no(is_choice, CELLS, 2, choice[:at] + (None,) + choice[at:])
            self.no(is_choice, CELLS, 2, choice + ((),))
            self.no(is_choice, CELLS, 2, list(choice))
            self.no(is_choice, CELLS, 2, (choice,))
            if len(choice) > 1:
                self.no(is_choice, CELLS, 2, choice[::-1])
        self.no(is_choice, CELLS, 2, ("kth", (A, B), 1))
        self.no(is_choice, CELLS, 2, ("kth", (A, B)))
        self.no(is_choice, CELLS, 2, ("greatest", 1, (A, B)))
        self.no(is_choice, CELLS, 2, ("least", 1, (A, B)))

    def test_words_in_place_of_another(self):
        for word in ("most", "None", "NONE", "", "a", "max", None, 0, True, ("none",), ["none"], {}):
            self.no(is_choice, CELLS, 2, (word,))
            self.no(is_choice, CELLS, 2, (word, 0))
            self.no(is_choice, CELLS, 2, (word, "a"))
            self.no(is_choice, CELLS, 2, (word, (A,)))
            self.no(is_choice, CELLS, 2, (word, 1, (A,)))

    def test_words_of_the_tongue_are_no_names(self):
        for word in ("none", "cell", "came", "kth", "greatest", "least"):
            self.no(is_choice, (word,), 2, ("cell", word))
        for word in ("nones", "cells", "cam", "kthh", "great", "leas", "lea", "set"):
            self.yes(is_choice, (word,), 2, ("cell", word))

    def test_letters_of_names(self):
        for good in ("a", "z", "ab", "abcdefgh", "zzzzzzzz", "x" * 8):
            self.yes(is_choice, ("b", good), 0, ("cell", good))
        for bad in ("", "abcdefghi", "x" * 9, "A", "aB", "a1", "1", "a b", " a", "a\n", "a_b", "-", "\u00e4", "{", "`"):
            self.no(is_choice, (bad, "a"), 0, ("cell", bad))

    def test_names_in_cells_alone(self):
        self.no(is_choice, (), 2, A)
        self.no(is_choice, ("b",), 2, A)
        self.no(is_choice, ("ab",), 2, A)
        self.no(is_choice, ("a",), 2, ("cell", "aa"))
        self.yes(is_choice, ("b", "c", "a"), 2, A)
        for other in (None, 0, True, (), ("a",), ["a"], {"a": 1}):
            self.no(is_choice, ("a", other), 2, ("cell", other))

    def test_numbers_that_came(self):
        for many, n in itertools.product((0, 1, 2), (-1, 0, 1, 2, 3, HUGE)):
            self.assertIs(is_choice(CELLS, many, ("came", n)), 0 <= n < many)
        for many in (1, 2):
            for truth in (True, False):
                self.no(is_choice, CELLS, many, ("came", truth))
        for other in (None, "0", (), (0,), [0], {}):
            self.no(is_choice, CELLS, 2, ("came", other))
        self.no(is_choice, CELLS, 3, ("came", 2))

    def test_k(self):
        for many in (1, 2, 3, 4, 5):
            for k in (-1, 0, 1, 2, 3, 4, 5, 6, HUGE):
                self.assertIs(is_choice(CELLS, 2, ("kth", k, (A,) * many)), 1 <= k <= many)
            for k in (True, False, None, "1", (1,), [1]):
                self.no(is_choice, CELLS, 2, ("kth", k, (A,) * many))

    def test_how_many_choices(self):
        for many in range(8):
            for choice in (("kth", 1, (A,) * many), ("greatest", (A,) * many), ("least", (A,) * many)):
                self.assertIs(is_choice(CELLS, 2, choice), 1 <= many <= 5)

    def test_lists_in_the_places_of_tuples(self):
        for choice in (["none"], ["cell", "a"], ["came", 0], ["kth", 1, (A,)], ("kth", 1, [A]), ("kth", 1, (list(A),)),
                       ["greatest", (A,)], ("greatest", [A]), ("greatest", (list(A),)),
                       ["least", (A,)], ("least", [A]), ("least", (list(A),))):
            self.no(is_choice, CELLS, 2, choice)

    def test_size(self):
        for size in range(59, 64):
            self.assertEqual(measured(CELLS, 2, large(size)), (size, 4))
            self.assertIs(is_choice(CELLS, 2, large(size)), size <= 60, size)
        flat = ("least", tuple(("greatest", tuple(("greatest", (A, B)) for at in range(5))) for row in range(4)))
        self.no(is_choice, CELLS, 2, flat)

    def test_size_of_both_kinds_together(self):
        ten = ("greatest", (("least", (A, A, A, A)), ("least", (A, A, A))))
        self.yes(is_choice, CELLS, 2, ("kth", 5, (ten,) * 5))
        fourteen = ("greatest", (ten, A, A, A))
        self.yes(is_choice, CELLS, 2, ("kth", 4, (fourteen,) * 4))
        self.yes(is_choice, CELLS, 2, ("kth", 4, (fourteen,) * 4 + (("least", (A, A)),)))
        self.no(is_choice, CELLS, 2, ("kth", 4, (fourteen,) * 4 + (("least", (A, A, A)),)))

    def test_depth(self):
        for depth in range(1, 20):
            self.assertIs(is_choice(CELLS, 2, deep(depth)), depth <= 8, depth)
            self.assertIs(is_choice(CELLS, 2, ("greatest", (A, deep(depth), A))), depth + 1 <= 8, depth)

    def test_depth_of_many_branches(self):
        wide = nested(7, lambda thing: ("least", (thing or NONE,) * 5))
        self.no(is_choice, CELLS, 2, wide)
        self.no(is_choice, CELLS, 2, nested(29, lambda thing: ("least", (thing or NONE,) * 5)))

    def test_of_anything(self):
        for thing in ANYTHING:
            for cells, many in ((CELLS, 2), ((), 0)):
                self.as_judged(cells, many, thing)
        for word, thing in itertools.product(("none", "cell", "came", "greatest", "least"), ANYTHING):
            self.as_judged(CELLS, 2, (word, thing))
            self.as_judged(CELLS, 2, (word, (thing,)))
        for k, thing in itertools.product((1, 2, True, None), ANYTHING):
            for choice in (("kth", k, thing), ("kth", thing, (A, B)), ("kth", k, (A, thing))):
                self.as_judged(CELLS, 2, choice)

    def test_by_names_and_asked_again(self):
        self.yes(is_choice, cells=CELLS, many=1, thing=CAME)
        self.no(is_choice, thing=LATER, many=1, cells=CELLS)
        self.yes(is_choice, CELLS, many=2, thing=LATER)
        self.assertIs(kept_as_is(self, is_choice, CELLS, 2, ["kth", [1], {"a": [A]}]), False)


class Chosen(unittest.TestCase):
    HELD = {"a": (5, 3, 0), "b": (), "c": (5, 1, 1), "d": (-7, 2, 0)}
    CAME = ((5, 4, 0), (5, 4, 1))

    def told(self, choice, came=CAME):
        return chosen(choice, self.HELD, came)

    def test_none(self):
        self.assertEqual(self.told(NONE), ())
        self.assertEqual(self.told(NONE, ()), ())

    def test_cell(self):
        for cell, note in self.HELD.items():
            self.assertEqual(self.told(("cell", cell)), note)
            self.assertEqual(self.told(("cell", cell), ()), note)

    def test_came(self):
        self.assertEqual(self.told(CAME), (5, 4, 0))
        self.assertEqual(self.told(LATER), (5, 4, 1))
        self.assertEqual(self.told(CAME, ((9, 0, 0),)), (9, 0, 0))

    def test_kth(self):
        parts = (A, B, ("cell", "c"), CAME, ("cell", "d"))
        self.assertEqual([self.told(("kth", k, parts)) for k in (1, 2, 3, 4, 5)],
                         [(5, 4, 0), (5, 3, 0), (5, 1, 1), (-7, 2, 0), ()])
        self.assertEqual([self.told(("kth", k, (A, A, B))) for k in (1, 2, 3)], [(5, 3, 0), (5, 3, 0), ()])

    def test_greatest_and_least(self):
        self.assertEqual(self.told(("greatest", (A, CAME, LATER))), (5, 4, 1))
        self.assertEqual(self.told(("least", (A, LATER, CAME))), (5, 3, 0))
        self.assertEqual(self.told(("greatest", (B, NONE, ("cell", "d")))), (-7, 2, 0))
        self.assertEqual(self.told(("least", (A, NONE, ("cell", "d")))), ())
        self.assertEqual(self.told(("greatest", (B, NONE))), ())
        self.assertEqual(self.told(("least", (A,))), (5, 3, 0))
        self.assertEqual(self.told(("greatest", (A,))), (5, 3, 0))

    def test_nested(self):
        middle = ("greatest", (("least", (A, ("cell", "d"))), ("least", (("greatest", (A, ("cell", "d"))), CAME))))
        self.assertEqual(self.told(middle), (5, 3, 0))
        self.assertEqual(self.told(("kth", 2, (middle, ("kth", 2, (CAME, LATER)), NONE))), (5, 3, 0))
        self.assertEqual(self.told(("kth", 1, (middle, ("kth", 2, (CAME, LATER)), NONE))), (5, 4, 0))
        self.assertEqual(chosen(deep(8), {}, ()), ())
        self.assertEqual(chosen(nested(7, lambda thing: ("kth", 1, (thing or A,))), {"a": (1, 0, 0)}, ()), (1, 0, 0))

    def test_all_small_choices_by_counting(self):
        leaves = (NONE, A, B, ("cell", "c"), CAME, LATER)
        choices = [("kth", k, parts) for many in (1, 2, 3) for parts in itertools.product(leaves, repeat=many)
                   for k in range(1, many + 1)]
        choices += [(word, parts) for many in (1, 2, 3) for parts in itertools.product(leaves, repeat=many)
                    for word in ("greatest", "least")]
        for choice in choices:
            self.assertEqual(self.told(choice), chosen_by_counting(choice, self.HELD, self.CAME))
            outer = ("kth", 2, (choice, CAME, A))
            self.assertEqual(self.told(outer), chosen_by_counting(outer, self.HELD, self.CAME))

    def test_by_names_and_nothing_changed(self):
        held = {"b": (), "a": (5, 3, 0)}
        choice = ("greatest", (A, B, CAME))
        self.assertEqual(kept_as_is(self, chosen, choice, held, ((6, 4, 0),)), (6, 4, 0))
        self.assertEqual(list(held.items()), [("b", ()), ("a", (5, 3, 0))])
        self.assertEqual(chosen(choice=choice, held=held, came=((1, 4, 0),)), (5, 3, 0))
        self.assertEqual(chosen(came=((1, 4, 0),), held=held, choice=("least", (A, CAME))), (1, 4, 0))


if __name__ == "__main__":
    unittest.main()
