import unittest

from heapsdouble import hardest as module
from heapsdouble.errors import BadMany, BadTotal
from heapsdouble.hardest import hardest, returning
from heapsdouble.small import fewest
from tests.helpers import (
    ANY_KINDS, LIMIT, all_heaps, changes_nothing, failure, not_numbers, plain_distances, plain_steps,
)

NOT_MANY = not_numbers(3, 4) + [0, 1, 2, 5, 6, -3, (3, 4), [3], "3", (1, 1, 1)]

SMALL = [(3, total) for total in range(3, 19)] + [(4, total) for total in range(4, 14)]
GREAT = [(3, total) for total in (30, 37, 39, 40)] + [(4, total) for total in (24, 39, 40)]


def not_totals(many):
    return not_numbers(many, 40) + [0, 1, 2, many - 1, 41, 42, 100, -many, (many,), [many], str(many), (1,) * many]


def ascending(many, total):
    return sorted({tuple(sorted(heaps)) for heaps in all_heaps(many, total) if 0 not in heaps})


def split(many, total, least=1):
    """Return what ascending returns, for sums that are too great to look at all heaps in any order."""
    if many == 1:
        return [(total,)] if total >= least else []
    return [(first,) + rest for first in range(least, total + 1) for rest in split(many - 1, total - first, first)]


def plain_fewest(heaps):
    distances = plain_distances(heaps)
    return min(distances[stand] for stand in distances if 0 in stand)


def plain_returns(heaps):
    """Tell whether some step is followed by any heaps that are these in any order."""
    return any(sorted(stand) == sorted(heaps) for behind in plain_steps(heaps).values()
               for stand in plain_distances(behind))


class InterfaceTest(unittest.TestCase):
    def test_functions_are_defined_in_this_file(self):
        for name in ("hardest", "returning"):
            self.assertEqual(getattr(module, name).__module__, "heapsdouble.hardest")

    def test_example(self):
        self.assertEqual(
            [hardest(3, 3), hardest(3, 4), hardest(3, 6), returning(3, 3), returning(3, 6)],
            [(1, [(1, 1, 1)]), (1, [(1, 1, 2)]), (2, [(1, 2, 3)]), [], [(1, 1, 4), (1, 2, 3)]])

    def test_arguments_by_name(self):
        self.assertEqual(hardest(many=3, total=6), (2, [(1, 2, 3)]))
        self.assertEqual(returning(total=6, many=3), [(1, 1, 4), (1, 2, 3)])

    def test_kinds_of_values(self):
        found = hardest(4, 10)
        self.assertIs(found.__class__, tuple)
        self.assertEqual([part.__class__ for part in found], [int, list])
        self.assertIs(returning(4, 10).__class__, list)
        for heaps in found[1] + returning(4, 10):
            self.assertIs(heaps.__class__, tuple)


class WrongValuesTest(unittest.TestCase):
    def test_what_is_no_many(self):
        for many in NOT_MANY:
            with self.subTest(repr(many)):
                self.assertEqual(failure(hardest, many, 10), (BadMany,))
                self.assertEqual(failure(returning, many, 10), (BadMany,))

    def test_what_is_no_total(self):
        for many in (3, 4):
            for total in not_totals(many):
                with self.subTest((many, repr(total))):
                    self.assertEqual(failure(hardest, many, total), (BadTotal,))
                    self.assertEqual(failure(returning, many, total), (BadTotal,))

    def test_bounds(self):
        for function in (hardest, returning):
            for many in (2, 5):
                self.assertEqual(failure(function, many, 10), (BadMany,))
            for many in (3, 4):
                self.assertEqual(failure(function, many, many - 1), (BadTotal,))
                self.assertIsNone(failure(function, many, many))
                self.assertIsNone(failure(function, many, 40))
                self.assertEqual(failure(function, many, 41), (BadTotal,))

    def test_bad_many_comes_before_bad_total(self):
        for many in (2, 5, True, "3", None, [3], LIMIT):
            for total in ANY_KINDS + [2, 41]:
                self.assertEqual(failure(hardest, many, total), (BadMany,))
                self.assertEqual(failure(returning, many, total), (BadMany,))

    def test_arguments_stay_unchanged(self):
        for value in NOT_MANY + not_totals(3):
            for function in (hardest, returning):
                self.assertTrue(changes_nothing(function, value, 10))
                self.assertTrue(changes_nothing(function, 3, value))


class HardestTest(unittest.TestCase):
    def look_at(self, many, total, heaps_of_total, count):
        numbers = {heaps: count(heaps) for heaps in heaps_of_total}
        greatest = max(numbers.values())
        expected = (greatest, sorted(heaps for heaps in numbers if numbers[heaps] == greatest))
        self.assertEqual(hardest(many, total), expected, (many, total))

    def test_small_totals(self):
        for many, total in SMALL:
            self.look_at(many, total, ascending(many, total), plain_fewest)

    def test_great_totals(self):
        for many, total in GREAT:
            self.look_at(many, total, split(many, total), fewest)

    def test_heaps_of_the_greatest_total(self):
        for many in (3, 4):
            greatest, found = hardest(many, 40)
            for heaps in found:
                self.assertEqual(plain_fewest(heaps), greatest)

    def test_least_total(self):
        self.assertEqual(hardest(3, 3), (1, [(1, 1, 1)]))
        self.assertEqual(hardest(4, 4), (1, [(1, 1, 1, 1)]))

    def test_lists_are_new(self):
        before = hardest(3, 6)
        hardest(3, 6)[1].append("mark")
        self.assertEqual(hardest(3, 6), before)


class ReturningTest(unittest.TestCase):
    def look_at(self, many, total, heaps_of_total):
        expected = [heaps for heaps in heaps_of_total if plain_returns(heaps)]
        self.assertEqual(returning(many, total), expected, (many, total))

    def test_small_totals(self):
        for many, total in SMALL:
            self.look_at(many, total, ascending(many, total))

    def test_greatest_total(self):
        found = returning(3, 40)
        for heaps in split(3, 40)[::5]:
            self.assertEqual(heaps in found, plain_returns(heaps), heaps)
        self.assertEqual(found, sorted(found))

    def test_some_come_back_only_in_another_order(self):
        # (1, 2, 3) is (2, 1, 3) behind one step.
        self.assertIn((1, 2, 3), returning(3, 6))
        self.assertIn((2, 1, 3), plain_steps((1, 2, 3)).values())

    def test_some_lead_to_heaps_that_come_back_and_do_not_come_back(self):
        for many, total in ((3, 10), (4, 10)):
            found = returning(many, total)
            behind = [heaps for heaps in ascending(many, total) if heaps not in found
                      and any(tuple(sorted(stand)) in found for stand in plain_steps(heaps).values())]
            self.assertNotEqual(behind, [])

    def test_least_total(self):
        self.assertEqual(returning(3, 3), [])
        self.assertEqual(returning(4, 4), [])

    def test_lists_are_new(self):
        returning(3, 6).append("mark")
        self.assertEqual(returning(3, 6), [(1, 1, 4), (1, 2, 3)])


if __name__ == "__main__":
    unittest.main()
