import math
import unittest

from heapsdouble import plans as module
from heapsdouble.errors import BadHeaps
from heapsdouble.plans import empty_plan, odd_part, one_plan, pair_plan
from heapsdouble.steps import made
from tests.helpers import LIMIT, NOT_HEAPS, all_heaps, changes_nothing, failure, plain_distances, plain_step

SMALL = [heaps for many, most in ((2, 20), (3, 12), (4, 8), (5, 6), (6, 5))
         for total in range(1, most + 1) for heaps in all_heaps(many, total)]

# Made by a rule, so that each run has the same ones: with each number of heaps, and up to the limit.
SPREAD = [tuple(pow(7 + seed, 40 + 9 * place, greatest + 1 - place) for place in range(many))
          for many in range(2, 7) for seed in range(8) for greatest in (10 ** 6, 10 ** 15, LIMIT)]

# Sums that are a power of 2, but for a divisor.
ENDING = [
    (3, 5), (3, 5, 8), (6, 10, 16), (21, 35, 56), (1, 2, 3, 4, 6), (LIMIT, LIMIT), (LIMIT,) * 4,
    (LIMIT, 2 ** 100 - LIMIT), (LIMIT, LIMIT - 3, 2 ** 101 - 2 * LIMIT + 3),
    (LIMIT, LIMIT - 1, LIMIT - 2, LIMIT - 3, 2 ** 102 - 5 * LIMIT + 13, LIMIT - 7),
    (3 * 10 ** 29, 10 ** 29), (3 * 10 ** 29, 10 ** 29, 4 * 10 ** 29, 0, 8 * 10 ** 29),
    (7, 7, 7, 7), (0, 5, 0, 5, 0, 0), (1,) * 4, (5, 0, 15, 10, 2, 0), (2 ** 99, 2 ** 98, 2 ** 98),
    (999999999999999999999999999999, 2 ** 100 - 10 ** 30, 1),
]

# Sums that are none.
STAYING = [
    (1, 2), (3, 5, 4), (1, 1, 1), (6, 10, 8), (LIMIT, LIMIT, LIMIT), (LIMIT,) * 6, (LIMIT,) * 5,
    (LIMIT, LIMIT - 1), (LIMIT, LIMIT - 1, LIMIT - 2), (1, LIMIT, 7), (1, 2, 3, 4, 5, 6),
    (LIMIT, LIMIT - 1, LIMIT - 2, LIMIT - 3, LIMIT - 4, LIMIT - 5), (0, 1, 2), (0, 0, 4, 8, 12, 0),
    (2 ** 99, 3 ** 60, 5 ** 40, 7 ** 30), (1, 10 ** 6, 10 ** 12, 10 ** 18, 10 ** 24, LIMIT),
    (123456789012345678901234567890, 987654321098765432109876543210, 111111111111111111111111111111),
]

# Heaps whose plans are long ones.
LONG = [
    (487539417024560859073419405589, 341325735705463555468450558864, 833890816758177814120764870013),
    (625372281076763036311641553111, 744218147579522157480027075750, 67390607179276647275288992282),
    (402865055675463934587189208736, 341325734524871925963536159120, 965165282243634868715023672712,
     981916752880333179618188090772, 303027717710360147666150501200, 388411697748234945640514344487),
    (330607416440059252887708589366, 590209488520255358040687302012, 705949848206789766788996280838,
     747340801974485348169054204851, 407455891822942812060350722297, 154120222789036265674072140082),
]

# Only one heap is not empty.
LONE = [(7, 0), (0, 1), (0, 0, 12), (LIMIT, 0, 0), (0, 0, 0, 0, 0, LIMIT), (0, 6, 0, 0)]

GREAT = SPREAD + ENDING + STAYING + LONG + LONE


def most_steps(heaps):
    """Return how many steps a plan that empties one heap may have."""
    figures = len(bin(sum(heaps))) - 2
    return figures * figures


def filled(heaps):
    return len(heaps) - heaps.count(0)


def plain_odd_part(heaps):
    number = sum(heaps) // math.gcd(*heaps)
    while number % 2 == 0:
        number //= 2
    return number


class InterfaceTest(unittest.TestCase):
    def test_functions_are_defined_in_this_file(self):
        for name in ("odd_part", "empty_plan", "pair_plan", "one_plan"):
            self.assertEqual(getattr(module, name).__module__, "heapsdouble.plans")

    def test_first_example(self):
        self.assertEqual(
            [odd_part((3, 5, 4)), odd_part((3, 5, 8)), one_plan((3, 5, 4)),
             sorted(made((3, 5, 8), one_plan((3, 5, 8))))],
            [3, 1, None, [0, 0, 16]])

    def test_second_example(self):
        self.assertEqual(
            [0 in made((3, 5, 4), empty_plan((3, 5, 4))), made((1, 1, 1, 1), pair_plan((1, 1, 1, 1))).count(0) > 1],
            [True, True])

    def test_arguments_by_name(self):
        self.assertEqual(odd_part(heaps=(3, 5, 4)), 3)
        self.assertEqual(len(empty_plan(heaps=(1, 1, 1))), 1)
        self.assertEqual(len(pair_plan(heaps=(1, 1, 1))), 1)
        self.assertIsNone(one_plan(heaps=(1, 1, 1)))


class WrongValuesTest(unittest.TestCase):
    def test_what_is_no_heaps(self):
        for heaps in NOT_HEAPS:
            for function in (odd_part, empty_plan, pair_plan, one_plan):
                with self.subTest(function.__name__ + repr(heaps)[:80]):
                    self.assertEqual(failure(function, heaps), (BadHeaps,))

    def test_two_heaps_at_empty_plan(self):
        for heaps in ((1, 2), (3, 5), (4, 4), (7, 0), (0, 1), (LIMIT, LIMIT), (LIMIT, 1)):
            with self.subTest(heaps):
                self.assertEqual(failure(empty_plan, heaps), (BadHeaps,))

    def test_arguments_stay_unchanged(self):
        for heaps in NOT_HEAPS + GREAT:
            for function in (odd_part, empty_plan, pair_plan, one_plan):
                self.assertTrue(changes_nothing(function, heaps))


class OddPartTest(unittest.TestCase):
    def test_small_heaps(self):
        for heaps in SMALL:
            number = sum(heaps) // max(d for d in range(1, 31) if not any(heap % d for heap in heaps))
            self.assertEqual(odd_part(heaps), max(d for d in range(1, number + 1, 2) if number % d == 0))

    def test_great_heaps(self):
        for heaps in GREAT:
            with self.subTest(heaps):
                self.assertEqual(odd_part(heaps), plain_odd_part(heaps))

    def test_told_ones(self):
        self.assertEqual(odd_part((LIMIT, LIMIT)), 1)
        self.assertEqual(odd_part((LIMIT, LIMIT, LIMIT)), 3)
        self.assertEqual(odd_part((LIMIT,) * 6), 3)
        self.assertEqual(odd_part((LIMIT, LIMIT - 1)), 2 * LIMIT - 1)
        self.assertEqual(odd_part((LIMIT, 0)), 1)
        self.assertEqual(odd_part((2, 4)), 3)
        self.assertEqual(odd_part((6, 10)), 1)
        self.assertEqual(odd_part((0, 0, 9, 0, 0, 0)), 1)
        self.assertEqual(odd_part((1, 2, 3, 4, 5, 6)), 21)

    def test_is_an_integer(self):
        for heaps in SMALL + GREAT:
            self.assertIs(odd_part(heaps).__class__, int)


class PlansTest(unittest.TestCase):
    def look_at_plan(self, heaps, plan, most):
        """Look whether it is a plan of tuples that can be made and is not too long, and return the heaps behind it."""
        self.assertIs(plan.__class__, tuple)
        self.assertLessEqual(len(plan), most)
        self.assertLessEqual(len(plan), 20000)
        behind = heaps
        for step in plan:
            self.assertIs(step.__class__, tuple)
            one, other = step
            behind = plain_step(behind, one, other)
            self.assertIsNotNone(behind)
        self.assertEqual(made(heaps, plan), behind)
        return behind

    def look_at_empty_plan(self, heaps):
        self.assertIn(0, self.look_at_plan(heaps, empty_plan(heaps), most_steps(heaps)))

    def look_at_pair_plan(self, heaps):
        behind = self.look_at_plan(heaps, pair_plan(heaps), most_steps(heaps) * len(heaps))
        self.assertLessEqual(filled(behind), 2)

    def look_at_one_plan(self, heaps):
        plan = one_plan(heaps)
        if plain_odd_part(heaps) > 1:
            self.assertIsNone(plan)
        else:
            behind = self.look_at_plan(heaps, plan, most_steps(heaps) * len(heaps))
            self.assertEqual(filled(behind), 1)

    def test_empty_plans_of_small_heaps(self):
        for heaps in SMALL:
            if len(heaps) > 2:
                self.look_at_empty_plan(heaps)

    def test_pair_plans_of_small_heaps(self):
        for heaps in SMALL:
            self.look_at_pair_plan(heaps)

    def test_one_plans_of_small_heaps(self):
        for heaps in SMALL:
            self.look_at_one_plan(heaps)

    def test_empty_plans_of_great_heaps(self):
        for heaps in GREAT:
            if len(heaps) > 2:
                with self.subTest(heaps):
                    self.look_at_empty_plan(heaps)

    def test_pair_plans_of_great_heaps(self):
        for heaps in GREAT:
            with self.subTest(heaps):
                self.look_at_pair_plan(heaps)

    def test_one_plans_of_great_heaps(self):
        for heaps in GREAT:
            with self.subTest(heaps):
                self.look_at_one_plan(heaps)

    def test_three_heaps_of_middle_size(self):
        for low in (1, 2, 3, 7, 12, 31):
            for middle in range(low, 80, 3):
                for high in (middle, middle + 1, 97, 128):
                    for heaps in ((low, middle, high), (high, low, middle), (middle, high, low)):
                        self.look_at_empty_plan(heaps)
                        self.look_at_one_plan(heaps)

    def test_one_plan_is_none_just_if_all_but_one_cannot_be_emptied(self):
        for heaps in SMALL:
            if filled(heaps) > 1 and len(heaps) < 5:
                can_be = any(filled(behind) == 1 for behind in plain_distances(heaps))
                self.assertEqual(one_plan(heaps) is not None, can_be)

    def test_lists_of_heaps_are_as_they_are_called(self):
        for heaps in ENDING + LONE:
            self.assertIsNotNone(one_plan(heaps), heaps)
        for heaps in STAYING:
            self.assertIsNone(one_plan(heaps), heaps)

    def test_plans_of_which_nothing_is_left_to_do(self):
        # No steps lead from a lone heap, and none are allowed for a sum of one.
        for heaps in LONE:
            self.assertEqual(pair_plan(heaps), ())
            self.assertEqual(one_plan(heaps), ())
        for heaps in ((0, 0, 1), (1, 0, 0, 0, 0, 0)):
            self.assertEqual(empty_plan(heaps), ())
            self.assertEqual(pair_plan(heaps), ())
            self.assertEqual(one_plan(heaps), ())

    def test_equal_calls_give_equal_plans(self):
        for heaps in ((3, 5, 8), (LIMIT, LIMIT - 1, LIMIT - 2), (1, 2, 3, 4, 5, 6), LONG[-1]):
            self.assertEqual(empty_plan(heaps), empty_plan(heaps))
            self.assertEqual(pair_plan(heaps), pair_plan(heaps))
            self.assertEqual(one_plan(heaps), one_plan(heaps))


if __name__ == "__main__":
    unittest.main()
