import unittest

from heapsdouble import rings as module
from heapsdouble.errors import BadTotal
from heapsdouble.pairs import tail_and_ring
from heapsdouble.rings import ending, rings, tails
from tests.helpers import changes_nothing, failure, not_numbers, plain_walk

MOST = 10 ** 6
NOT_TOTALS = not_numbers(2, MOST) + [0, 1, -2, MOST + 1, 2 * MOST, (3, 5), [7], "7"]

SMALL = range(2, 61)
GREAT = [
    MOST, MOST - 1, MOST - 2, 999983, 2 ** 19, 2 ** 19 - 1, 2 ** 19 + 1, 3 * 2 ** 18, 3 ** 12, 5 ** 8, 720720, 30030 * 32,
    499999, 524286, 9 * 7 * 5 * 3 * 11 * 13, 999999 - 3, 997 * 991, 1093 ** 2 // 2, 65537 * 15, 1000, 1001, 1023, 1024,
]


def counted(values):
    """Return the ascending list of (value, how often it stands in values)."""
    return [(value, values.count(value)) for value in sorted(set(values))]


def walked(total):
    """Return what rings, tails and ending tell of a total, found by the walk of each standing."""
    lengths, tail_counts, ends = {}, [], []
    for first in range(1, total):
        standings, again = plain_walk((first, total - first))
        if again is None:
            ends.append(len(standings) - 1)
        else:
            tail_counts.append(again)
            lengths[min(standings[again:])] = len(standings) - again
    return counted(list(lengths.values())), counted(tail_counts), counted(ends)


def walked_rings(total):
    """Return what rings tells of a total, found by going on from each standing that was not come by."""
    state, lengths, turn = [0] * total, [], 0
    for first in range(1, total):
        turn += 1
        behind = first
        while behind != 0 and state[behind] == 0:
            state[behind] = turn
            behind = behind * 2 % total
        if behind != 0 and state[behind] == turn:
            length, end = 1, behind
            while behind * 2 % total != end:
                length, behind = length + 1, behind * 2 % total
            lengths.append(length)
    return counted(lengths)


class InterfaceTest(unittest.TestCase):
    def test_functions_are_defined_in_this_file(self):
        for name in ("rings", "tails", "ending"):
            self.assertEqual(getattr(module, name).__module__, "heapsdouble.rings")

    def test_example(self):
        self.assertEqual(
            [rings(3), rings(8), rings(7), rings(30), tails(6), tails(8), ending(8), ending(6), ending(7)],
            [[(2, 1)], [], [(3, 2)], [(2, 1), (4, 3)], [(0, 2), (1, 2)], [], [(1, 1), (2, 2), (3, 4)], [(1, 1)], []])

    def test_arguments_by_name(self):
        self.assertEqual([rings(total=3), tails(total=3), ending(total=3)], [[(2, 1)], [(0, 2)], []])


class WrongValuesTest(unittest.TestCase):
    def test_what_is_no_total(self):
        for total in NOT_TOTALS:
            for function in (rings, tails, ending):
                with self.subTest(function.__name__ + repr(total)):
                    self.assertEqual(failure(function, total), (BadTotal,))

    def test_bounds(self):
        for function in (rings, tails, ending):
            for total in (1, MOST + 1):
                self.assertEqual(failure(function, total), (BadTotal,))
            for total in (2, 3, MOST - 1, MOST):
                self.assertIsNone(failure(function, total))

    def test_arguments_stay_unchanged(self):
        for total in NOT_TOTALS:
            for function in (rings, tails, ending):
                self.assertTrue(changes_nothing(function, total))


class CountsTest(unittest.TestCase):
    def test_small_totals(self):
        for total in SMALL:
            with self.subTest(total):
                self.assertEqual((rings(total), tails(total), ending(total)), walked(total))

    def test_counts_are_those_of_tail_and_ring(self):
        for total in (96, 105, 240, 255, 256, 315, 341, 360, 385):
            walks = [tail_and_ring((first, total - first)) for first in range(1, total)]
            in_rings = [ring for tail, ring in walks if tail == 0]
            self.assertEqual(rings(total), [(length, many // length) for length, many in counted(in_rings)])
            self.assertEqual(tails(total), counted([tail for tail, ring in walks if ring > 0]))
            self.assertEqual(ending(total), counted([tail for tail, ring in walks if ring == 0]))

    def test_all_standings_are_counted(self):
        for total in list(range(2, 400)) + GREAT:
            with self.subTest(total):
                never = sum(many for tail, many in tails(total))
                self.assertEqual(never + sum(many for steps, many in ending(total)), total - 1)
                in_rings = [many for tail, many in tails(total) if tail == 0]
                self.assertEqual([sum(length * many for length, many in rings(total))], in_rings or [0])

    def test_lists_ascend_and_count_what_there_is(self):
        for total in list(range(2, 400)) + GREAT:
            for function in (rings, tails, ending):
                found = function(total)
                self.assertIs(found.__class__, list)
                self.assertEqual(found, sorted(dict(found).items()))
                self.assertEqual([many for value, many in found if many < 1], [])
                self.assertEqual([pair for pair in found if pair.__class__ is not tuple], [])

    def test_rings_of_great_totals(self):
        for total in (MOST, MOST - 1, 65535, 65536, 65537, 45045, 60000):
            with self.subTest(total):
                self.assertEqual(rings(total), walked_rings(total))

    def test_greatest_total(self):
        self.assertEqual(tails(MOST), [(0, 15624), (1, 15624), (2, 31248), (3, 62496), (4, 124992), (5, 249984),
                                       (6, 499968)])
        self.assertEqual(ending(MOST), [(1, 1), (2, 2), (3, 4), (4, 8), (5, 16), (6, 32)])
        self.assertEqual(rings(MOST), [(4, 1), (20, 1), (100, 1), (500, 1), (2500, 1), (12500, 1)])

    def test_least_total(self):
        self.assertEqual([rings(2), tails(2), ending(2)], [[], [], [(1, 1)]])

    def test_powers_of_two(self):
        for twos in range(1, 20):
            total = 2 ** twos
            self.assertEqual(rings(total), [])
            self.assertEqual(tails(total), [])
            self.assertEqual(ending(total), [(steps, 2 ** steps // 2) for steps in range(1, twos + 1)])

    def test_odd_totals(self):
        for total in (3, 5, 7, 9, 15, 999999, 999983):
            self.assertEqual(tails(total), [(0, total - 1)])
            self.assertEqual(ending(total), [])

    def test_lists_are_new(self):
        for function in (rings, tails, ending):
            before = function(24)
            function(24).append("mark")
            self.assertEqual(function(24), before)


if __name__ == "__main__":
    unittest.main()
