import unittest
from functools import lru_cache
from itertools import permutations

from heapsdouble import games as module
from heapsdouble.errors import BadHeaps, TooGreat
from heapsdouble.games import forced, good_steps, winner
from tests.helpers import LIMIT, NOT_HEAPS, all_heaps, changes_nothing, failure, plain_distances, plain_steps

FUNCTIONS = (winner, forced, good_steps)

SMALL = [heaps for many, most in ((2, 30), (3, 13)) for total in range(many, most + 1)
         for heaps in all_heaps(many, total) if 0 not in heaps]
GREATEST = [(1, 29), (15, 15), (10, 20), (14, 16), (1, 1, 28), (10, 10, 10), (9, 10, 11), (1, 2, 27), (7, 11, 12),
            (3, 5, 22), (5, 5, 20), (28, 1, 1), (1, 14, 15), (4, 9, 17), (2, 3, 25)]

NOT_PLAYED = [
    (0, 5), (5, 0), (0, 3, 5), (3, 0, 5), (3, 5, 0), (0, 0, 5), (0, 1), (1, 1, 0),
    (1, 1, 1, 1), (1, 2, 3, 4), (1,) * 5, (1,) * 6, (0, 1, 2, 3), (10, 10, 10, 10), (LIMIT,) * 4,
    (0, 31), (LIMIT, 0), (0, LIMIT, 1), (30, 30, 30, 0),
]
TOO_GREAT = [(1, 30), (30, 1), (15, 16), (16, 15), (31, 1), (29, 1, 1), (1, 1, 29), (10, 10, 11), (11, 10, 10),
             (30, 30), (LIMIT, LIMIT), (1, LIMIT), (LIMIT, LIMIT, LIMIT), (1, 1, LIMIT)]


@lru_cache(maxsize=None)
def plain_behind(heaps):
    return list(plain_steps(heaps).values())


@lru_cache(maxsize=None)
def can_win(heaps, within):
    """Tell whether who makes the next step can win within so many steps."""
    return within > 0 and any(0 in behind or must_lose(behind, within - 1) for behind in plain_behind(heaps))


@lru_cache(maxsize=None)
def must_lose(heaps, within):
    """Tell whether who makes the next step is beaten within so many steps, whatever that one does."""
    return within > 0 and all(0 not in behind and can_win(behind, within - 1) for behind in plain_behind(heaps))


@lru_cache(maxsize=None)
def plain_game(heaps):
    """Return (winner, steps until then), found by a look at all steps, and at all answers to them."""
    stands = [stand for stand in plain_distances(heaps) if 0 not in stand]
    before = -1
    within = 0
    while True:
        # Where one more step decides nothing more, no further one does.
        decided = [can_win(stand, within) or must_lose(stand, within) for stand in stands].count(True)
        if can_win(heaps, within):
            return "first", within
        if must_lose(heaps, within):
            return "second", within
        if decided == before and within > 1:
            return "nobody", None
        before = decided
        within += 1


def plain_good_steps(heaps):
    who, _ = plain_game(heaps)
    good = []
    for step, behind in sorted(plain_steps(heaps).items()):
        # Behind a step the other player is the one who is called the first.
        fate = "second" if 0 in behind else plain_game(behind)[0]
        if who == "second" or (who == "first" and fate == "second") or (who == "nobody" and fate != "first"):
            good.append(step)
    return good


class InterfaceTest(unittest.TestCase):
    def test_functions_are_defined_in_this_file(self):
        for name in ("winner", "forced", "good_steps"):
            self.assertEqual(getattr(module, name).__module__, "heapsdouble.games")

    def test_first_example(self):
        self.assertEqual(
            [winner((3, 3)), forced((3, 3)), good_steps((3, 3)), winner((1, 3)), forced((1, 3)), winner((1, 2)),
             forced((1, 2)), good_steps((1, 2))],
            ["first", 1, [(0, 1), (1, 0)], "second", 2, "nobody", None, [(1, 0)]])

    def test_second_example(self):
        self.assertEqual([winner((1, 1, 5)), good_steps((1, 1, 5))], ["first", [(0, 1), (1, 0)]])

    def test_arguments_by_name(self):
        self.assertEqual(winner(heaps=(3, 3)), "first")
        self.assertEqual(forced(heaps=(3, 3)), 1)
        self.assertEqual(good_steps(heaps=(1, 2)), [(1, 0)])


class WrongValuesTest(unittest.TestCase):
    def test_what_is_no_heaps(self):
        for heaps in NOT_HEAPS:
            for function in FUNCTIONS:
                with self.subTest(function.__name__ + repr(heaps)[:80]):
                    self.assertEqual(failure(function, heaps), (BadHeaps,))

    def test_empty_heaps_and_other_numbers_of_heaps(self):
        for heaps in NOT_PLAYED:
            for function in FUNCTIONS:
                with self.subTest(function.__name__ + repr(heaps)):
                    self.assertEqual(failure(function, heaps), (BadHeaps,))

    def test_too_great(self):
        for heaps in TOO_GREAT:
            for function in FUNCTIONS:
                with self.subTest(function.__name__ + repr(heaps)):
                    self.assertEqual(failure(function, heaps), (TooGreat,))

    def test_greatest_heaps_are_not_too_great(self):
        for heaps in GREATEST:
            self.assertEqual(sum(heaps), 30)
            for function in FUNCTIONS:
                self.assertIsNone(failure(function, heaps))

    def test_arguments_stay_unchanged(self):
        for heaps in NOT_HEAPS + NOT_PLAYED + TOO_GREAT + SMALL[:50]:
            for function in FUNCTIONS:
                self.assertTrue(changes_nothing(function, heaps))


class GamesTest(unittest.TestCase):
    def test_small_heaps(self):
        for heaps in SMALL:
            self.assertEqual((winner(heaps), forced(heaps)), plain_game(heaps), heaps)

    def test_good_steps_of_small_heaps(self):
        for heaps in SMALL:
            self.assertEqual(good_steps(heaps), plain_good_steps(heaps), heaps)

    def test_greatest_heaps(self):
        for heaps in GREATEST:
            with self.subTest(heaps):
                self.assertEqual((winner(heaps), forced(heaps)), plain_game(heaps))
                self.assertEqual(good_steps(heaps), plain_good_steps(heaps))

    def test_small_heaps_are_of_every_kind(self):
        for many in (2, 3):
            found = {plain_game(heaps)[0] for heaps in SMALL if len(heaps) == many}
            self.assertEqual(found, {"first", "second", "nobody"})

    def test_some_good_steps_are_not_all_and_not_the_quickest_ones_alone(self):
        some_are_bad = {"first": 0, "nobody": 0}
        some_are_slow = 0
        for heaps in SMALL:
            who, length = plain_game(heaps)
            good = good_steps(heaps)
            if who == "second":
                self.assertEqual(good, sorted(plain_steps(heaps)))
            elif len(good) < len(plain_steps(heaps)):
                some_are_bad[who] += 1
            if who == "first":
                fates = [plain_steps(heaps)[step] for step in good]
                some_are_slow += any((0 if 0 in behind else plain_game(behind)[1]) > length - 1 for behind in fates)
        self.assertGreater(min(some_are_bad.values()), 0)
        self.assertGreater(some_are_slow, 0)

    def test_two_heaps_go_as_they_walk(self):
        for total in range(2, 31):
            for heaps in all_heaps(2, total):
                if 0 not in heaps:
                    walk, seen = heaps, []
                    while 0 not in walk and walk not in seen:
                        seen.append(walk)
                        walk = max(plain_behind(walk)) if walk[0] == walk[1] else plain_behind(walk)[0]
                    expected = len(seen) if 0 in walk else None
                    self.assertEqual(forced(heaps), expected)
                    who = "nobody" if expected is None else ("second", "first")[expected % 2]
                    self.assertEqual(winner(heaps), who)

    def test_equal_heaps_are_won_at_once(self):
        for heaps in ((1, 1), (15, 15), (1, 1, 28), (1, 28, 1), (28, 1, 1), (10, 10, 10), (1, 1, 1)):
            self.assertEqual((winner(heaps), forced(heaps)), ("first", 1))

    def test_order_of_heaps_changes_nothing_but_the_steps(self):
        for heaps in ((1, 2, 5), (2, 3, 4), (1, 4, 7), (3, 5, 22), (5, 10, 15)):
            for turned in permutations(range(3)):
                stand = tuple(heaps[place] for place in turned)
                self.assertEqual((winner(stand), forced(stand)), (winner(heaps), forced(heaps)))
                expected = sorted((turned.index(one), turned.index(other)) for one, other in good_steps(heaps))
                self.assertEqual(good_steps(stand), expected)

    def test_kinds_of_values(self):
        for heaps in SMALL[::7]:
            self.assertIs(winner(heaps).__class__, str)
            self.assertIn(forced(heaps).__class__, (int, type(None)))
            self.assertIs(good_steps(heaps).__class__, list)
            self.assertEqual({step.__class__ for step in good_steps(heaps)}, {tuple})

    def test_lists_are_new(self):
        for heaps in ((3, 3), (1, 2), (1, 3), (2, 3, 4)):
            before = good_steps(heaps)
            good_steps(heaps).append("mark")
            self.assertEqual(good_steps(heaps), before)


if __name__ == "__main__":
    unittest.main()
