import itertools
import random
import unittest

from stilltold.guards import free, is_guard
from tests.helper import ANYTHING, HUGE, Judges, any_guard, kept_as_is, nearly, whole

DEEDS = (("push", 1), ("ask", 0))


def judged_guard(deeds, thing):
    return (type(thing) is tuple and len(thing) in (1, 2, 3, 4)
            and all(type(place) is tuple and len(place) == len(deeds) for place in thing)
            and all(behind is None or whole(behind) and behind in range(len(thing))
                    for place in thing for behind in place))


class IsGuard(Judges, unittest.TestCase):
    def test_how_many_places(self):
        for many in range(8):
            self.assertIs(is_guard(DEEDS, ((0, None),) * many), 1 <= many <= 4, many)

    def test_guards(self):
        self.yes(is_guard, DEEDS, ((0, 0),))
        self.yes(is_guard, DEEDS, ((None, None),))
        self.yes(is_guard, DEEDS, ((1, None), (None, 0)))
        self.yes(is_guard, DEEDS, ((3, 2), (1, 0), (None, 3), (0, None)))
        chance = random.Random(7)
        for turn in range(100):
            deeds = DEEDS[:chance.randint(1, 2)]
            self.yes(is_guard, deeds, any_guard(chance, deeds))

    def test_places_as_long_as_the_deeds(self):
        for many in (1, 2, 3, 4):
            deeds = tuple((called, 0) for called in "abcd"[:many])
            for length in range(7):
                self.assertIs(is_guard(deeds, ((0,) * length,)), length == many)
                self.assertIs(is_guard(deeds, ((0,) * many, (0,) * length)), length == many)

    def test_numbers_of_places(self):
        for places, behind in itertools.product((1, 2, 3, 4), (-HUGE, -1, 0, 1, 2, 3, 4, 5, HUGE)):
            guard = ((0, 0),) * (places - 1) + ((0, behind),)
            self.assertIs(is_guard(DEEDS, guard), 0 <= behind < places, guard)
            guard = ((behind, None),) + ((0, 0),) * (places - 1)
            self.assertIs(is_guard(DEEDS, guard), 0 <= behind < places, guard)

    def test_other_things_in_the_places_of_numbers(self):
        for other in (True, False, "0", "", (), (0,), [0], [], {}):
            self.no(is_guard, DEEDS, ((0, other), (1, 1)))
            self.no(is_guard, DEEDS, ((0, 0), (other, 1)))

    def test_lists_and_none(self):
        self.no(is_guard, DEEDS, None)
        self.no(is_guard, DEEDS, (None,))
        self.no(is_guard, DEEDS, [(0, 0)])
        self.no(is_guard, DEEDS, ([0, 0],))
        self.no(is_guard, DEEDS, ((0, 0), [0, 0]))
        self.no(is_guard, DEEDS, (0, 0))
        self.no(is_guard, DEEDS, ())
        self.no(is_guard, DEEDS, ((),))

    def test_of_anything(self):
        for thing in ANYTHING:
            for guard in (thing, (thing,), ((0, 0), thing), ((thing, 0),), ((0, thing), (1, None))):
                self.assertIs(is_guard(DEEDS, guard), judged_guard(DEEDS, guard), guard)
        for guard in (((0, 0),), ((1, None), (None, 0), (2, 2)), ((3, 2), (1, 0), (None, 3), (0, None))):
            for thing in nearly(guard):
                self.assertIs(is_guard(DEEDS, thing), judged_guard(DEEDS, thing), thing)

    def test_by_names_and_asked_again(self):
        self.yes(is_guard, deeds=DEEDS, thing=((0, None),))
        self.no(is_guard, thing=((0, 1),), deeds=DEEDS)
        self.assertIs(kept_as_is(self, is_guard, DEEDS, [[0, {}]]), False)


class Free(Judges, unittest.TestCase):
    def test_of_each_number_of_deeds(self):
        deeds = (("a", 0), ("b", 1), ("c", 2), ("d", 0))
        self.assertEqual([free(deeds[:many]) for many in (1, 2, 3, 4)],
                         [((0,),), ((0, 0),), ((0, 0, 0),), ((0, 0, 0, 0),)])
        for many in (1, 2, 3, 4):
            self.yes(is_guard, deeds[:many], free(deeds[:many]))
            self.assertIs(type(free(deeds[:many])[0]), tuple)

    def test_by_name_and_asked_again(self):
        self.assertEqual(free(deeds=DEEDS), ((0, 0),))
        self.assertEqual(kept_as_is(self, free, DEEDS), ((0, 0),))


if __name__ == "__main__":
    unittest.main()
