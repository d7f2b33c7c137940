import unittest

from heapsdouble import pairs as module
from heapsdouble.errors import BadHeaps, BadMany, TooGreat
from heapsdouble.pairs import after, ends_after, tail_and_ring
from tests.helpers import ANY_KINDS, LIMIT, NOT_HEAPS, NOT_MANY, all_heaps, changes_nothing, failure, plain_walk

SMALL = [heaps for total in range(1, 41) for heaps in all_heaps(2, total)]
OTHER_THAN_TWO = [(1, 2, 3), (0, 0, 5), (1,) * 6, (LIMIT,) * 3, (LIMIT, 1, 1, 1)]


class InterfaceTest(unittest.TestCase):
    def test_functions_are_defined_in_this_file(self):
        for name in ("after", "ends_after", "tail_and_ring"):
            self.assertEqual(getattr(module, name).__module__, "heapsdouble.pairs")

    def test_first_example(self):
        self.assertEqual(
            [after((3, 5), 1), after((3, 5), 9), ends_after((3, 5)), ends_after((1, 2)), tail_and_ring((1, 2)),
             tail_and_ring((3, 5))],
            [(6, 2), (0, 8), 3, None, (0, 2), (3, 0)])

    def test_second_example(self):
        self.assertEqual(
            [after((1, 10 ** 30 - 1), 10 ** 30)[0] % 1000, tail_and_ring((1, 5)), ends_after((7, 0))],
            [376, (1, 2), 0])

    def test_arguments_by_name(self):
        self.assertEqual(after(heaps=(3, 5), many=2), (4, 4))
        self.assertEqual(ends_after(heaps=(3, 5)), 3)
        self.assertEqual(tail_and_ring(heaps=(3, 5)), (3, 0))


class WrongValuesTest(unittest.TestCase):
    def test_what_is_not_two_heaps(self):
        for heaps in NOT_HEAPS + OTHER_THAN_TWO:
            with self.subTest(repr(heaps)[:80]):
                self.assertEqual(failure(after, heaps, 1), (BadHeaps,))
                self.assertEqual(failure(ends_after, heaps), (BadHeaps,))
                self.assertEqual(failure(tail_and_ring, heaps), (BadHeaps,))

    def test_what_is_no_many(self):
        for many in NOT_MANY:
            with self.subTest(repr(many)):
                self.assertEqual(failure(after, (3, 5), many), (BadMany,))
                self.assertEqual(failure(after, (1, 2), many), (BadMany,))
                self.assertEqual(failure(after, (7, 0), many), (BadMany,))

    def test_bad_heaps_come_before_bad_many(self):
        for heaps in ([3, 5], (0, 0), (3, True), (1, 2, 3)):
            for many in ANY_KINDS + NOT_MANY:
                self.assertEqual(failure(after, heaps, many), (BadHeaps,))

    def test_arguments_stay_unchanged(self):
        for heaps in NOT_HEAPS + OTHER_THAN_TWO + SMALL[:100]:
            self.assertTrue(changes_nothing(after, heaps, 3))
            self.assertTrue(changes_nothing(ends_after, heaps))
            self.assertTrue(changes_nothing(tail_and_ring, heaps))
        for many in NOT_MANY:
            self.assertTrue(changes_nothing(after, (3, 5), many))

    def test_too_great(self):
        for heaps in ((1, 10 ** 6), (10 ** 6, 1), (10 ** 6 + 1, 0), (500001, 500000), (LIMIT, LIMIT),
                      (2 ** 19, 2 ** 19), (1, 2 ** 20 - 1)):
            with self.subTest(heaps):
                self.assertEqual(failure(tail_and_ring, heaps), (TooGreat,))
                self.assertIsNone(failure(after, heaps, 1))
                self.assertIsNone(failure(ends_after, heaps))

    def test_bad_heaps_come_before_too_great(self):
        self.assertEqual(failure(tail_and_ring, (10 ** 6, 10 ** 6, 1)), (BadHeaps,))
        self.assertEqual(failure(tail_and_ring, (10 ** 31, 1)), (BadHeaps,))


class WalkTest(unittest.TestCase):
    def test_all_walks_of_small_heaps(self):
        for heaps in SMALL:
            standings, again = plain_walk(heaps)
            if again is None:
                standings = standings[:-1] + [standings[-1]] * 4
            else:
                standings = standings + standings[again:] * 2
            if again is None and 0 not in heaps:
                self.assertEqual(standings[-1], (0, sum(heaps)))
            for many, standing in enumerate(standings):
                self.assertEqual(after(heaps, many), standing)

    def test_ends_of_small_heaps(self):
        for heaps in SMALL:
            standings, again = plain_walk(heaps)
            self.assertEqual(ends_after(heaps), len(standings) - 1 if again is None else None)

    def test_tails_and_rings_of_small_heaps(self):
        for heaps in SMALL:
            standings, again = plain_walk(heaps)
            expected = (len(standings) - 1, 0) if again is None else (again, len(standings) - again)
            self.assertEqual(tail_and_ring(heaps), expected)

    def test_of_equal_heaps_the_first_one_gives(self):
        self.assertEqual(after((3, 3), 0), (3, 3))
        self.assertEqual(after((3, 3), 1), (0, 6))
        self.assertEqual(after((3, 3), LIMIT), (0, 6))
        self.assertEqual(after((5, 3), 3), (0, 8))
        self.assertEqual(after((LIMIT, LIMIT), 1), (0, 2 * LIMIT))

    def test_where_one_heap_is_empty_at_once(self):
        for heaps in ((7, 0), (0, 7), (8, 0), (0, LIMIT), (1, 0)):
            for many in (0, 1, 2, LIMIT):
                self.assertEqual(after(heaps, many), heaps)
            self.assertEqual(ends_after(heaps), 0)

    def test_no_steps(self):
        for heaps in ((1, 2), (3, 5), (LIMIT, LIMIT), (LIMIT, 1)):
            self.assertEqual(after(heaps, 0), heaps)

    def test_long_walk_that_ends(self):
        heaps = (1, 2 ** 99 - 1)
        self.assertEqual(ends_after(heaps), 99)
        self.assertEqual(after(heaps, 98), (2 ** 98, 2 ** 98))
        self.assertEqual(after(heaps, 99), (0, 2 ** 99))
        self.assertEqual(after(heaps, 100), (0, 2 ** 99))
        self.assertEqual(after(heaps, LIMIT), (0, 2 ** 99))

    def test_ends_of_great_heaps(self):
        self.assertEqual(ends_after((LIMIT, LIMIT)), 1)
        self.assertEqual(ends_after((LIMIT, 2 ** 100 - LIMIT)), 70)
        self.assertIsNone(ends_after((LIMIT, LIMIT - 1)))
        self.assertIsNone(ends_after((1, LIMIT)))
        self.assertEqual(ends_after((3 * 10 ** 29, 10 ** 29)), 2)

    def test_great_walks_that_never_end(self):
        for heaps in ((1, LIMIT), (LIMIT, LIMIT - 1), (LIMIT - 7, 12345678901234567890)):
            total = sum(heaps)
            for many in (1, 2, 3, 99, 100, 101, 2 ** 64, LIMIT - 1, LIMIT):
                factor = pow(2, many, total)
                self.assertEqual(after(heaps, many), tuple(heap * factor % total for heap in heaps))

    def test_great_walk_step_by_step(self):
        heaps = standing = (LIMIT, 7)
        for many in range(300):
            self.assertEqual(after(heaps, many), standing)
            a, b = standing
            standing = (a - b, 2 * b) if a >= b else (2 * a, b - a)

    def test_tails_and_rings_of_the_greatest_sums(self):
        self.assertEqual(tail_and_ring((1, 999999)), (6, 12500))
        self.assertEqual(tail_and_ring((999999, 1)), (6, 12500))
        self.assertEqual(tail_and_ring((500000, 500000)), (1, 0))
        self.assertEqual(tail_and_ring((10 ** 6, 0)), (0, 0))
        self.assertEqual(tail_and_ring((0, 10 ** 6)), (0, 0))
        self.assertEqual(tail_and_ring((1, 2 ** 19 - 1)), (19, 0))

    def test_tail_and_ring_of_a_great_prime_sum(self):
        power, ring = 2, 1
        while power != 1:
            power, ring = power * 2 % 999983, ring + 1
        self.assertEqual(tail_and_ring((17, 999966)), (0, ring))


if __name__ == "__main__":
    unittest.main()
