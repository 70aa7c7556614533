import itertools
import unittest

from stilltold.notes import is_note, kth
from tests.helper import ANYTHING, HUGE, Judges, kept_as_is, kth_by_counting, nearly, whole


def judged_note(thing):
    return (type(thing) is tuple and len(thing) == 3 and all(whole(part) for part in thing)
            and thing[1] >= 0 and thing[2] in (0, 1))


class IsNote(Judges, unittest.TestCase):
    def test_notes(self):
        for number in (-HUGE, -5, -1, 0, 1, 2, 5, HUGE):
            for at in (0, 1, 2, 299, HUGE):
                for place in (0, 1):
                    self.yes(is_note, (number, at, place))

    def test_none_is_no_note(self):
        self.no(is_note, ())

    def test_fewer_and_more_parts(self):
        for thing in ((5,), (5, 0), (5, 0, 0, 0), (5, 0, 0, 0, 0), ((5, 0, 0),), (5, 0, (0,))):
            self.no(is_note, thing)

    def test_a_list_is_no_tuple(self):
        self.no(is_note, [5, 0, 0])
        self.no(is_note, [])

    def test_a_truth_is_no_number(self):
        for truth in (True, False):
            self.no(is_note, (truth, 0, 0))
            self.no(is_note, (5, truth, 0))
            self.no(is_note, (5, 0, truth))

    def test_at_and_place_beyond(self):
        for thing in ((5, -1, 0), (5, -HUGE, 1), (5, 0, -1), (5, 0, 2), (5, 0, HUGE), (0, 0, 3)):
            self.no(is_note, thing)

    def test_other_things_in_each_place(self):
        for other in (None, "", "5", "0", (), (0,), [0], {}, {0: 0}):
            self.no(is_note, (other, 0, 0))
            self.no(is_note, (5, other, 0))
            self.no(is_note, (5, 0, other))

    def test_of_anything(self):
        for thing in ANYTHING:
            self.assertIs(is_note(thing), judged_note(thing), thing)
        for thing in nearly((5, 1, 1), ANYTHING):
            self.assertIs(is_note(thing), judged_note(thing), thing)
        for thing in ("abc", "500", 500, {"number": 5}, None):
            self.no(is_note, thing)

    def test_by_name_and_asked_again(self):
        self.yes(is_note, thing=(5, 0, 1))
        self.assertIs(kept_as_is(self, is_note, [5, [0], {1: 2}]), False)


class Kth(unittest.TestCase):
    def test_one(self):
        self.assertEqual(kth(((5, 0, 0),), 1), (5, 0, 0))
        self.assertEqual(kth(((),), 1), ())

    def test_several(self):
        things = ((3, 0, 0), (9, 1, 0), (-4, 2, 0), (7, 3, 1))
        self.assertEqual([kth(things, k) for k in (1, 2, 3, 4)], [(9, 1, 0), (7, 3, 1), (3, 0, 0), (-4, 2, 0)])

    def test_alike_ones_count_as_often_as_they_stand(self):
        things = ((5, 0, 0), (3, 1, 0), (5, 0, 0), (5, 0, 0))
        self.assertEqual([kth(things, k) for k in (1, 2, 3, 4)], [(5, 0, 0)] * 3 + [(3, 1, 0)])

    def test_none_is_below_all(self):
        things = ((), (-HUGE, 0, 0), (), (2, 1, 0))
        self.assertEqual([kth(things, k) for k in (1, 2, 3, 4)], [(2, 1, 0), (-HUGE, 0, 0), (), ()])
        self.assertEqual([kth(((), (), ()), k) for k in (1, 2, 3)], [(), (), ()])

    def test_equal_numbers_the_later_is_above(self):
        things = ((5, 1, 0), (5, 1, 1), (5, 10, 0), (5, 2, 1))
        self.assertEqual([kth(things, k) for k in (1, 2, 3, 4)], [(5, 10, 0), (5, 2, 1), (5, 1, 1), (5, 1, 0)])
        self.assertEqual(kth(((6, 0, 0), (5, 9, 1)), 1), (6, 0, 0))

    def test_turned_about_and_each_k(self):
        things = ((), (5, 0, 0), (5, 0, 1), (5, 0, 1), (-2, 7, 0))
        for row in itertools.permutations(things):
            for k in range(1, len(row) + 1):
                self.assertEqual(kth(row, k), sorted(things)[-k])
                self.assertEqual(kth(row, k), kth_by_counting(row, k))

    def test_huge_numbers(self):
        self.assertEqual(kth(((HUGE, 0, 0), (HUGE - 1, 1, 0), (-HUGE, 2, 0)), 1), (HUGE, 0, 0))
        self.assertEqual(kth(((HUGE, 0, 0), (HUGE - 1, 1, 0), (-HUGE, 2, 0)), 2), (HUGE - 1, 1, 0))

    def test_by_names_and_asked_again(self):
        things = ((1, 0, 0), (2, 1, 0))
        self.assertEqual(kth(things=things, k=2), (1, 0, 0))
        self.assertEqual(kth(k=1, things=things), (2, 1, 0))
        self.assertEqual(kept_as_is(self, kth, things, 1), (2, 1, 0))

    def test_a_k_somewhat_beyond_raises_no_error(self):
        self.assertIn(kth(((1, 0, 0),), 2), ((), (1, 0, 0)))


if __name__ == "__main__":
    unittest.main()
