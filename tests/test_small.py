import unittest

from heapsdouble import small as module
from heapsdouble.errors import BadHeaps, BadMany, TooGreat
from heapsdouble.small import fewest, many_ways, reachable, way
from heapsdouble.steps import judge, made
from tests.helpers import (
    ANY_KINDS, LIMIT, NOT_HEAPS, all_heaps, changes_nothing, failure, not_numbers, plain_distances, plain_steps,
)

SMALL = [heaps for many, most in ((2, 12), (3, 9), (4, 6))
         for total in range(1, most + 1) for heaps in all_heaps(many, total)]
NOT_STEP_COUNTS = not_numbers(0, 10)

TOO_GREAT = [
    (41, 0), (0, 41), (20, 21), (1, 40), (13, 14, 14), (10, 10, 10, 11), (0, 0, 0, 41), (32, 32), (50, 1),
    (1, 1, 1, 1, 1), (0, 0, 0, 0, 1), (40, 0, 0, 0, 0), (1,) * 6, (0, 0, 0, 0, 0, 40), (10, 10, 10, 10, 1),
    (LIMIT, LIMIT), (LIMIT, 0), (1, 1, 1, LIMIT), (LIMIT,) * 6,
]
GREATEST = [(40, 0), (0, 40), (20, 20), (1, 39), (13, 13, 14), (10, 10, 10, 10), (7, 9, 11, 13), (0, 0, 0, 40),
            (1, 2, 3, 34), (39, 1, 0, 0), (8, 32), (5, 35), (15, 25), (11, 13, 16), (3, 5, 32)]

NOT_HEAPS_BRIEFLY = [[3, 5], None, "35", (0, 0), (3,), (3, True), (3, -1), (1,) * 7, (LIMIT + 1, 1)]


def plain_ways(heaps, aim, many):
    """Return the number of plans that lead to aim, each of which is tried."""
    if many == 0:
        return 1 if heaps == aim else 0
    return sum(plain_ways(behind, aim, many - 1) for behind in plain_steps(heaps).values())


def plain_counts(heaps, many):
    """Return {heaps: number of plans with so many steps that lead there}."""
    counts = {heaps: 1}
    for _ in range(many):
        onward = {}
        for stand, ways in counts.items():
            for behind in plain_steps(stand).values():
                onward[behind] = onward.get(behind, 0) + ways
        counts = onward
    return counts


class InterfaceTest(unittest.TestCase):
    def test_functions_are_defined_in_this_file(self):
        for name in ("reachable", "fewest", "way", "many_ways"):
            self.assertEqual(getattr(module, name).__module__, "heapsdouble.small")

    def test_example(self):
        self.assertEqual(
            [reachable((1, 2)), fewest((1, 2)), fewest((1, 2, 3)), len(way((1, 2, 3), (2, 4, 0))),
             many_ways((1, 2, 3), (2, 4, 0), 2)],
            [[(1, 2), (2, 1)], None, 2, 2, 2])

    def test_arguments_by_name(self):
        self.assertEqual(reachable(heaps=(1, 1)), [(0, 2), (1, 1), (2, 0)])
        self.assertEqual(fewest(heaps=(1, 1)), 1)
        self.assertEqual(way(heaps=(1, 1), aim=(0, 2)), ((0, 1),))
        self.assertEqual(many_ways(heaps=(1, 1), aim=(0, 2), steps=1), 1)


class WrongValuesTest(unittest.TestCase):
    def test_what_is_no_heaps(self):
        for heaps in NOT_HEAPS:
            with self.subTest(repr(heaps)[:80]):
                self.assertEqual(failure(reachable, heaps), (BadHeaps,))
                self.assertEqual(failure(fewest, heaps), (BadHeaps,))
                self.assertEqual(failure(way, heaps, (1, 2)), (BadHeaps,))
                self.assertEqual(failure(many_ways, heaps, (1, 2), 1), (BadHeaps,))

    def test_aim_that_is_no_heaps(self):
        for aim in NOT_HEAPS:
            with self.subTest(repr(aim)[:80]):
                self.assertEqual(failure(way, (1, 2), aim), (BadHeaps,))
                self.assertEqual(failure(way, (7, 9, 11, 13), aim), (BadHeaps,))
                self.assertEqual(failure(many_ways, (1, 2), aim, 1), (BadHeaps,))

    def test_too_great(self):
        for heaps in TOO_GREAT:
            with self.subTest(heaps):
                self.assertEqual(failure(reachable, heaps), (TooGreat,))
                self.assertEqual(failure(fewest, heaps), (TooGreat,))
                self.assertEqual(failure(way, heaps, (1, 2)), (TooGreat,))
                self.assertEqual(failure(way, heaps, heaps), (TooGreat,))
                self.assertEqual(failure(many_ways, heaps, (1, 2), 1), (TooGreat,))

    def test_aim_that_is_too_great(self):
        for aim in TOO_GREAT:
            with self.subTest(aim):
                self.assertEqual(failure(way, (1, 2), aim), (TooGreat,))
                self.assertEqual(failure(way, (10, 10, 10, 10), aim), (TooGreat,))
                self.assertEqual(failure(many_ways, (1, 2), aim, 1), (TooGreat,))

    def test_what_is_no_number_of_steps(self):
        for many in NOT_STEP_COUNTS:
            with self.subTest(repr(many)):
                self.assertEqual(failure(many_ways, (1, 2), (2, 1), many), (BadMany,))
                self.assertEqual(failure(many_ways, (1, 2), (2, 1, 0), many), (BadMany,))
                self.assertEqual(failure(many_ways, (1, 2), (2, 2), many), (BadMany,))

    def test_bounds_of_the_number_of_steps(self):
        self.assertEqual(failure(many_ways, (1, 2), (2, 1), -1), (BadMany,))
        self.assertEqual(many_ways((1, 2), (2, 1), 0), 0)
        self.assertEqual(many_ways((1, 2), (1, 2), 0), 1)
        self.assertEqual(many_ways((1, 2), (1, 2), 10), 1)
        self.assertEqual(failure(many_ways, (1, 2), (2, 1), 11), (BadMany,))

    def test_greatest_heaps_are_small(self):
        for heaps in GREATEST:
            with self.subTest(heaps):
                for function, arguments in ((reachable, (heaps,)), (fewest, (heaps,)), (way, (heaps, heaps)),
                                            (way, ((1, 2), heaps)), (many_ways, (heaps, heaps, 1)),
                                            (many_ways, ((1, 2), heaps, 1))):
                    self.assertIsNone(failure(function, *arguments))

    def test_heaps_come_before_aim(self):
        for aim in ANY_KINDS + NOT_HEAPS_BRIEFLY + TOO_GREAT:
            for heaps in NOT_HEAPS_BRIEFLY:
                self.assertEqual(failure(way, heaps, aim), (BadHeaps,))
                self.assertEqual(failure(many_ways, heaps, aim, 1), (BadHeaps,))
            for heaps in TOO_GREAT:
                self.assertEqual(failure(way, heaps, aim), (TooGreat,))
                self.assertEqual(failure(many_ways, heaps, aim, 1), (TooGreat,))

    def test_heaps_and_aim_come_before_steps(self):
        for many in NOT_STEP_COUNTS:
            for wrong in NOT_HEAPS_BRIEFLY:
                self.assertEqual(failure(many_ways, wrong, (1, 2), many), (BadHeaps,))
                self.assertEqual(failure(many_ways, (1, 2), wrong, many), (BadHeaps,))
            for wrong in TOO_GREAT:
                self.assertEqual(failure(many_ways, wrong, (1, 2), many), (TooGreat,))
                self.assertEqual(failure(many_ways, (1, 2), wrong, many), (TooGreat,))

    def test_arguments_stay_unchanged(self):
        for heaps in NOT_HEAPS + SMALL[:60] + TOO_GREAT:
            self.assertTrue(changes_nothing(reachable, heaps))
            self.assertTrue(changes_nothing(fewest, heaps))
            self.assertTrue(changes_nothing(way, heaps, (2, 1)))
            self.assertTrue(changes_nothing(way, (1, 2), heaps))
            self.assertTrue(changes_nothing(many_ways, heaps, (2, 1), 3))
            self.assertTrue(changes_nothing(many_ways, (1, 2), heaps, 3))
        for many in NOT_STEP_COUNTS:
            self.assertTrue(changes_nothing(many_ways, (1, 2), (2, 1), many))


class ReachableTest(unittest.TestCase):
    def test_small_heaps(self):
        for heaps in SMALL:
            self.assertEqual(reachable(heaps), sorted(plain_distances(heaps)))

    def test_greatest_heaps(self):
        for heaps in GREATEST:
            with self.subTest(heaps):
                self.assertEqual(reachable(heaps), sorted(plain_distances(heaps)))

    def test_heaps_of_which_nothing_comes(self):
        for heaps in ((7, 0), (0, 40), (0, 0, 5), (0, 0, 3, 0)):
            self.assertEqual(reachable(heaps), [heaps])

    def test_equal_heaps(self):
        self.assertEqual(reachable((20, 20)), [(0, 40), (20, 20), (40, 0)])
        self.assertEqual(len(reachable((10, 10, 10, 10))), 23)

    def test_lists_are_new(self):
        reachable((1, 2)).append("mark")
        self.assertEqual(reachable((1, 2)), [(1, 2), (2, 1)])


class FewestTest(unittest.TestCase):
    def look_at(self, heaps):
        counts = [many for stand, many in plain_distances(heaps).items() if 0 in stand]
        self.assertEqual(fewest(heaps), min(counts, default=None))

    def test_small_heaps(self):
        for heaps in SMALL:
            self.look_at(heaps)

    def test_greatest_heaps(self):
        for heaps in GREATEST:
            with self.subTest(heaps):
                self.look_at(heaps)

    def test_heap_that_is_empty_at_once(self):
        for heaps in ((7, 0), (0, 40), (1, 2, 0), (0, 1, 2, 3)):
            self.assertEqual(fewest(heaps), 0)

    def test_two_heaps(self):
        self.assertEqual(fewest((3, 5)), 3)
        self.assertEqual(fewest((20, 20)), 1)
        self.assertEqual(fewest((1, 31)), 5)
        self.assertIsNone(fewest((1, 39)))

    def test_three_and_four_heaps_can_always_be_emptied(self):
        for heaps in SMALL + GREATEST:
            if len(heaps) > 2:
                self.assertIsNotNone(fewest(heaps))


class WayTest(unittest.TestCase):
    def look_at(self, heaps, aim, many):
        """Look whether the way has so many steps, or is none."""
        plan = way(heaps, aim)
        if many is None:
            self.assertIsNone(plan)
        else:
            self.assertIs(plan.__class__, tuple)
            self.assertEqual([step for step in plan if step.__class__ is not tuple], [])
            self.assertIsNone(judge(heaps, plan))
            self.assertEqual(made(heaps, plan), aim)
            self.assertEqual(len(plan), many)

    def test_all_aims_of_small_heaps(self):
        for heaps in SMALL:
            if sum(heaps) < 8:
                distances = plain_distances(heaps)
                for aim in all_heaps(len(heaps), sum(heaps)):
                    self.look_at(heaps, aim, distances.get(aim))

    def test_some_aims_of_the_greatest_heaps(self):
        for heaps in GREATEST:
            distances = plain_distances(heaps)
            for aim in sorted(distances)[::max(1, len(distances) // 9)]:
                with self.subTest((heaps, aim)):
                    self.look_at(heaps, aim, distances[aim])

    def test_farthest_aim(self):
        heaps = (7, 9, 11, 13)
        distances = plain_distances(heaps)
        aim = max(distances, key=distances.get)
        self.look_at(heaps, aim, distances[aim])

    def test_the_heaps_themselves(self):
        for heaps in SMALL + GREATEST:
            self.assertEqual(way(heaps, heaps), ())

    def test_aim_that_cannot_come_to_be(self):
        for heaps, aim in (((3, 5), (5, 3)), ((1, 2), (3, 0)), ((7, 0), (0, 7)), ((6, 2, 0), (3, 5, 0)),
                           ((1, 2, 4), (1, 3, 3)), ((10, 10, 10, 10), (9, 11, 10, 10))):
            self.assertIsNone(way(heaps, aim))

    def test_aim_of_another_sum(self):
        for heaps, aim in (((3, 5), (6, 3)), ((1, 2), (20, 20)), ((1, 2, 3), (1, 2, 4)), ((40, 0), (1, 0))):
            self.assertIsNone(way(heaps, aim))

    def test_aim_of_another_number_of_heaps(self):
        for heaps, aim in (((3, 5), (6, 2, 0)), ((3, 5), (3, 5, 0)), ((3, 5, 0), (3, 5)), ((3, 5, 0), (6, 2)),
                           ((1, 1, 1, 1), (4, 0, 0)), ((1, 2), (0, 0, 1, 2)), ((0, 0, 0, 40), (0, 40))):
            with self.subTest((heaps, aim)):
                self.assertIsNone(way(heaps, aim))
                self.assertEqual([many_ways(heaps, aim, many) for many in range(11)], [0] * 11)


class ManyWaysTest(unittest.TestCase):
    def test_all_aims_of_small_heaps(self):
        for heaps in SMALL:
            if sum(heaps) < 6:
                for aim in all_heaps(len(heaps), sum(heaps)):
                    for many in range(4):
                        self.assertEqual(many_ways(heaps, aim, many), plain_ways(heaps, aim, many))

    def test_more_steps(self):
        for heaps, aim in (((1, 2, 3), (2, 4, 0)), ((1, 2, 3), (4, 2, 0)), ((2, 3, 4), (0, 1, 8)),
                           ((1, 1, 2, 3), (0, 2, 4, 1))):
            for many in range(7):
                self.assertEqual(many_ways(heaps, aim, many), plain_ways(heaps, aim, many))

    def test_no_steps(self):
        for heaps in SMALL[:200]:
            self.assertEqual(many_ways(heaps, heaps, 0), 1)
            self.assertEqual(many_ways(heaps, heaps[::-1], 0), 1 if heaps == heaps[::-1] else 0)

    def test_ten_steps_of_two_heaps(self):
        self.assertEqual([many_ways((1, 10), (1, 10), many) for many in range(11)], [1] + [0] * 9 + [1])
        self.assertEqual([many_ways((20, 20), (0, 40), many) for many in range(11)], [0, 1] + [0] * 9)

    def test_ten_steps_of_three_and_four_heaps(self):
        for heaps in ((1, 2, 3), (3, 5, 4), (13, 13, 14), (10, 10, 10, 10), (1, 1, 1, 1), (7, 9, 11, 13)):
            counts = plain_counts(heaps, 10)
            most = max(sorted(counts), key=counts.get)
            for aim in (most, min(counts), max(counts)):
                with self.subTest((heaps, aim)):
                    self.assertEqual(many_ways(heaps, aim, 10), counts[aim])


if __name__ == "__main__":
    unittest.main()
