import unittest

from heapsdouble import steps as module
from heapsdouble.errors import BadHeaps, BadPlan, BadStep
from heapsdouble.steps import before, is_first, judge, made, stepped, steps
from tests.helpers import (
    ANY_KINDS, LIMIT, NOT_HEAPS, NOT_PLANS, NOT_STEPS, all_heaps, changes_nothing, failure, plain_step, plain_steps,
)

SMALL = [heaps for many in (2, 3, 4) for total in range(1, 8) for heaps in all_heaps(many, total)]
ROUND = ((1, 0), (0, 1))  # leads (1, 2) back to itself


class InterfaceTest(unittest.TestCase):
    def test_functions_are_defined_in_this_file(self):
        for name in ("steps", "stepped", "judge", "made", "before", "is_first"):
            self.assertEqual(getattr(module, name).__module__, "heapsdouble.steps")

    def test_first_example(self):
        self.assertEqual(
            [steps((3, 5, 0)), stepped((3, 5, 0), (1, 0)), judge((3, 5, 0), ((1, 0), (1, 0))),
             made((3, 5, 0), ((1, 0), (0, 1)))],
            [[(1, 0)], (6, 2, 0), 1, (4, 4, 0)])

    def test_second_example(self):
        self.assertEqual(
            [before((6, 2, 0)), is_first((3, 5)), is_first((3, 4))],
            [[((3, 2, 3), (2, 0)), ((3, 5, 0), (1, 0)), ((6, 1, 1), (2, 1)), ((7, 1, 0), (0, 1))], True, False])

    def test_arguments_by_name(self):
        self.assertEqual(steps(heaps=(3, 5)), [(1, 0)])
        self.assertEqual(stepped(heaps=(3, 5), step=(1, 0)), (6, 2))
        self.assertIsNone(judge(heaps=(3, 5), plan=()))
        self.assertEqual(made(heaps=(3, 5), plan=()), (3, 5))
        self.assertEqual(before(heaps=(3, 5)), [])
        self.assertTrue(is_first(heaps=(3, 5)))


class HeapsTest(unittest.TestCase):
    def test_what_is_no_heaps(self):
        for heaps in NOT_HEAPS:
            with self.subTest(repr(heaps)[:80]):
                self.assertEqual(failure(steps, heaps), (BadHeaps,))
                self.assertEqual(failure(stepped, heaps, (1, 0)), (BadHeaps,))
                self.assertEqual(failure(judge, heaps, ()), (BadHeaps,))
                self.assertEqual(failure(made, heaps, ()), (BadHeaps,))
                self.assertEqual(failure(before, heaps), (BadHeaps,))
                self.assertEqual(failure(is_first, heaps), (BadHeaps,))

    def test_bad_heaps_come_before_what_is_wrong_on_the_right(self):
        for heaps in ([3, 5], (0, 0), (True, 5), (1,) * 7):
            for value in ANY_KINDS:
                self.assertEqual(failure(stepped, heaps, value), (BadHeaps,))
                self.assertEqual(failure(judge, heaps, value), (BadHeaps,))
                self.assertEqual(failure(made, heaps, value), (BadHeaps,))

    def test_edges_that_are_heaps(self):
        for heaps in ((0, 1), (1, 0), (LIMIT, LIMIT), (LIMIT,) * 6, (0, 0, 0, 0, 0, 1), (0, LIMIT)):
            with self.subTest(heaps):
                self.assertIsInstance(steps(heaps), list)
                self.assertEqual(made(heaps, ()), heaps)
                self.assertIsNone(judge(heaps, ()))

    def test_arguments_stay_unchanged(self):
        for heaps in NOT_HEAPS + SMALL[:50]:
            self.assertTrue(changes_nothing(steps, heaps))
            self.assertTrue(changes_nothing(before, heaps))
            self.assertTrue(changes_nothing(is_first, heaps))
        for value in NOT_STEPS + NOT_PLANS + [((1, 0), [0, 1]), ([1, 0], (1, 0))]:
            self.assertTrue(changes_nothing(stepped, (3, 5), value))
            self.assertTrue(changes_nothing(judge, (3, 5), value))
            self.assertTrue(changes_nothing(made, (3, 5), value))


class StepsTest(unittest.TestCase):
    def test_steps_of_all_small_heaps(self):
        for heaps in SMALL:
            self.assertEqual(steps(heaps), sorted(plain_steps(heaps)))

    def test_equal_heaps_give_both_ways(self):
        self.assertEqual(steps((4, 4)), [(0, 1), (1, 0)])

    def test_empty_heaps_neither_give_nor_are_doubled(self):
        self.assertEqual(steps((7, 0)), [])
        self.assertEqual(steps((0, 0, 0, 5, 0, 0)), [])
        self.assertEqual(steps((0, 2, 1)), [(1, 2)])

    def test_six_heaps_in_ascending_order(self):
        self.assertEqual(steps((1,) * 6), [(a, b) for a in range(6) for b in range(6) if a != b])
        self.assertEqual(steps((6, 5, 4, 3, 2, 1)), [(a, b) for a in range(6) for b in range(a + 1, 6)])

    def test_greatest_heaps(self):
        self.assertEqual(steps((LIMIT, LIMIT - 1)), [(0, 1)])
        self.assertEqual(steps((LIMIT - 1, LIMIT)), [(1, 0)])

    def test_lists_are_new(self):
        first = steps((4, 4))
        first.append("mark")
        self.assertEqual(steps((4, 4)), [(0, 1), (1, 0)])


class SteppedTest(unittest.TestCase):
    def test_all_steps_of_all_small_heaps(self):
        for heaps in SMALL:
            for one in range(len(heaps)):
                for other in range(len(heaps)):
                    behind = None if one == other else plain_step(heaps, one, other)
                    if behind is None:
                        self.assertEqual(failure(stepped, heaps, (one, other)), (BadStep,))
                    else:
                        self.assertEqual(stepped(heaps, (one, other)), behind)

    def test_heaps_behind_may_be_above_the_limit(self):
        self.assertEqual(stepped((LIMIT, LIMIT), (0, 1)), (0, 2 * LIMIT))
        self.assertEqual(stepped((LIMIT, LIMIT - 1), (0, 1)), (1, 2 * LIMIT - 2))
        self.assertEqual(failure(steps, stepped((LIMIT, LIMIT), (0, 1))), (BadHeaps,))

    def test_six_heaps(self):
        self.assertEqual(stepped((1, 2, 3, 4, 5, 6), (5, 0)), (2, 2, 3, 4, 5, 5))
        self.assertEqual(failure(stepped, (1, 2, 3, 4, 5, 6), (5, 6)), (BadStep,))

    def test_what_is_no_step(self):
        for step in NOT_STEPS:
            with self.subTest(repr(step)):
                self.assertEqual(failure(stepped, (4, 4), step), (BadStep,))

    def test_steps_that_cannot_be_made(self):
        for heaps, step in (((3, 5), (0, 1)), ((5, 0), (0, 1)), ((0, 5), (0, 1)), ((0, 5, 0), (0, 2)),
                            ((LIMIT - 1, LIMIT), (0, 1))):
            self.assertEqual(failure(stepped, heaps, step), (BadStep,))


class PlanTest(unittest.TestCase):
    def test_empty_plan(self):
        self.assertIsNone(judge((3, 5), ()))
        self.assertEqual(made((3, 5), ()), (3, 5))

    def test_index_of_the_first_step_that_cannot_be_made(self):
        for heaps in SMALL:
            if len(heaps) > 3:
                continue
            for step, behind in plain_steps(heaps).items():
                following = plain_steps(behind)
                for one in range(len(heaps)):
                    for other in range(len(heaps)):
                        if one == other:
                            continue
                        plan = (step, (one, other))
                        if (one, other) in following:
                            self.assertIsNone(judge(heaps, plan))
                            self.assertEqual(made(heaps, plan), following[(one, other)])
                        else:
                            self.assertEqual(judge(heaps, plan), 1)
                            self.assertEqual(failure(made, heaps, plan), (BadPlan, 1))

    def test_first_step_cannot_be_made(self):
        self.assertEqual(judge((3, 5), ((0, 1), (1, 0))), 0)
        self.assertEqual(failure(made, (3, 5), ((0, 1), (1, 0))), (BadPlan, 0))

    def test_step_in_the_middle_cannot_be_made(self):
        plan = ((1, 0), (0, 1), (0, 1), (0, 1), (1, 0))
        self.assertEqual(judge((3, 5), plan), 3)
        self.assertEqual(failure(made, (3, 5), plan), (BadPlan, 3))

    def test_longest_plan(self):
        plan = ROUND * 10000
        self.assertEqual(len(plan), 20000)
        self.assertIsNone(judge((1, 2), plan))
        self.assertEqual(made((1, 2), plan), (1, 2))
        self.assertEqual(made((1, 2), plan[:-1]), (2, 1))

    def test_last_step_of_the_longest_plan_cannot_be_made(self):
        plan = ROUND * 9999 + ((1, 0), (1, 0))
        self.assertEqual(judge((1, 2), plan), 19999)
        self.assertEqual(failure(made, (1, 2), plan), (BadPlan, 19999))

    def test_plan_that_is_too_long(self):
        for plan in (ROUND * 10000 + ROUND[:1], ("no step",) * 20001):
            self.assertEqual(failure(judge, (1, 2), plan), (BadPlan, None))
            self.assertEqual(failure(made, (1, 2), plan), (BadPlan, None))

    def test_what_is_no_tuple(self):
        for plan in NOT_PLANS:
            with self.subTest(repr(plan)):
                self.assertEqual(failure(judge, (4, 4), plan), (BadPlan, None))
                self.assertEqual(failure(made, (4, 4), plan), (BadPlan, None))

    def test_index_of_the_first_thing_that_is_no_step(self):
        for thing in NOT_STEPS:
            for index in (0, 1, 5):
                plan = (ROUND * 3)[:index] + (thing,) + ((0, 1), None)
                with self.subTest(repr(plan)):
                    self.assertEqual(failure(judge, (1, 2), plan), (BadPlan, index))
                    self.assertEqual(failure(made, (1, 2), plan), (BadPlan, index))

    def test_what_is_no_step_comes_before_what_cannot_be_made(self):
        plan = ((0, 1), (1, 0), (0, 0))
        self.assertEqual(failure(judge, (3, 5), plan), (BadPlan, 2))
        self.assertEqual(failure(made, (3, 5), plan), (BadPlan, 2))

    def test_heaps_of_a_step_are_those_of_these_heaps(self):
        self.assertIsNone(judge((1,) * 6, ((5, 0),)))
        self.assertEqual(failure(judge, (1,) * 5, ((5, 0),)), (BadPlan, 0))

    def test_heaps_on_the_way_may_be_above_the_limit(self):
        plan = ((0, 1), (1, 2), (1, 2))
        self.assertEqual(made((LIMIT,) * 3, plan[:2]), (0, LIMIT, 2 * LIMIT))
        self.assertEqual(judge((LIMIT,) * 3, plan), 2)
        self.assertEqual(made((LIMIT, LIMIT, LIMIT), ((0, 1),)), (0, 2 * LIMIT, LIMIT))


class BeforeTest(unittest.TestCase):
    def test_all_small_heaps(self):
        sources = {}
        for heaps in SMALL:
            for step, behind in plain_steps(heaps).items():
                sources.setdefault(behind, []).append((heaps, step))
        for heaps in SMALL:
            self.assertEqual(before(heaps), sorted(sources.get(heaps, [])))
            self.assertIs(is_first(heaps), heaps not in sources)

    def test_empty_heaps_are_not_doubled(self):
        self.assertEqual(before((0, 3)), [])
        self.assertIs(is_first((0, 3)), True)
        self.assertIs(is_first((0, 0, 0, 0, 0, 1)), True)

    def test_empty_heap_has_given_all(self):
        self.assertEqual(before((0, 8)), [((4, 4), (0, 1))])
        self.assertIs(is_first((0, 8)), False)

    def test_equal_heaps(self):
        self.assertEqual(before((2, 2)), [((1, 3), (1, 0)), ((3, 1), (0, 1))])

    def test_six_heaps(self):
        self.assertEqual(before((1, 1, 1, 1, 1, 1)), [])
        self.assertEqual(
            before((1, 1, 1, 1, 1, 2)),
            [((1, 1, 1, 1, 2, 1), (4, 5)), ((1, 1, 1, 2, 1, 1), (3, 5)), ((1, 1, 2, 1, 1, 1), (2, 5)),
             ((1, 2, 1, 1, 1, 1), (1, 5)), ((2, 1, 1, 1, 1, 1), (0, 5))])

    def test_earlier_heaps_may_be_above_the_limit(self):
        half = LIMIT // 2
        self.assertEqual(
            before((LIMIT, LIMIT)), [((half, LIMIT + half), (1, 0)), ((LIMIT + half, half), (0, 1))])
        self.assertIs(is_first((LIMIT, LIMIT)), False)
        self.assertIs(is_first((LIMIT - 1, LIMIT - 1)), True)

    def test_lists_are_new(self):
        first = before((2, 2))
        first.clear()
        self.assertEqual(len(before((2, 2))), 2)


if __name__ == "__main__":
    unittest.main()
