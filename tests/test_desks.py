import inspect
import unittest
from itertools import product

from heapsdouble import desks as module
from heapsdouble.desks import Desk
from heapsdouble.errors import BadHeaps, BadStep, Full
from heapsdouble.steps import judge, made
from tests.helpers import ANY_KINDS, LIMIT, NOT_HEAPS, all_heaps, changes_nothing, failure, plain_step, plain_steps

SMALL = [heaps for many, most in ((2, 7), (3, 6), (4, 5)) for total in range(1, most + 1)
         for heaps in all_heaps(many, total)]
ROUND = ((1, 0), (0, 1))  # leads (1, 2) back to itself


def standing(desk):
    """Return all that a desk tells of itself."""
    return desk.heaps, desk.plan, desk.empties(), len(desk)


def desk_behind(heaps, plan):
    desk = Desk(heaps)
    for one, other in plan:
        desk.move(one, other)
    return desk


def full_desk():
    """Return a desk of (1, 2) with 100 steps."""
    return desk_behind((1, 2), ROUND * 50)


def plain_plans(heaps, most):
    """Return [(plan, heaps behind it)] of all plans with at most so many steps."""
    found = [((), heaps)]
    newest = found
    for _ in range(most):
        newest = [(plan + (step,), behind) for plan, stand in newest for step, behind in plain_steps(stand).items()]
        found = found + newest
    return found


class InterfaceTest(unittest.TestCase):
    def test_class_is_defined_in_this_file(self):
        self.assertEqual(Desk.__module__, "heapsdouble.desks")
        self.assertIs(module.Desk, Desk)

    def test_all_is_defined_in_the_class_itself(self):
        for name in ("__init__", "move", "empties", "undo", "copy", "__len__"):
            self.assertTrue(inspect.isfunction(vars(Desk)[name]), name)
        for name in ("heaps", "plan"):
            self.assertIsInstance(vars(Desk)[name], property)

    def test_names_of_arguments(self):
        for name, arguments in (("__init__", ["self", "heaps"]), ("move", ["self", "one", "other"]),
                                ("empties", ["self"]), ("undo", ["self"]), ("copy", ["self"])):
            self.assertEqual(list(inspect.signature(vars(Desk)[name]).parameters), arguments)
        self.assertEqual(Desk(heaps=(3, 5)).move(one=1, other=0), 3)

    def test_example(self):
        desk = Desk((3, 3, 2))
        self.assertEqual(
            [desk.move(0, 1), desk.heaps, desk.empties(), desk.plan, desk.undo(), desk.heaps, len(desk)],
            [3, (0, 6, 2), 1, ((0, 1),), True, (3, 3, 2), 0])
        with self.assertRaises(BadStep):
            desk.move(2, 0)

    def test_kinds_of_values(self):
        desk = Desk((3, 5))
        self.assertIs(desk.undo(), False)
        self.assertIs(desk.move(1, 0).__class__, int)
        self.assertIs(desk.heaps.__class__, tuple)
        self.assertIs(desk.plan.__class__, tuple)
        self.assertIs(desk.plan[0].__class__, tuple)
        self.assertIs(desk.empties().__class__, int)
        self.assertIs(desk.copy().__class__, Desk)
        self.assertIs(desk.undo(), True)

    def test_desk_is_equal_to_nothing_of_another_kind(self):
        desk = Desk((3, 5))
        for value in ANY_KINDS + [desk.heaps, desk.plan, [3, 5]]:
            self.assertFalse(desk == value)
            self.assertTrue(desk != value)


class HeapsTest(unittest.TestCase):
    def test_what_is_no_heaps(self):
        for heaps in NOT_HEAPS:
            with self.subTest(repr(heaps)[:80]):
                self.assertEqual(failure(Desk, heaps), (BadHeaps,))
                self.assertTrue(changes_nothing(Desk, heaps))

    def test_new_desk(self):
        for heaps in SMALL + [(0, 1), (LIMIT, LIMIT), (LIMIT,) * 6, (0, 0, 0, 0, 0, 1), (0, LIMIT)]:
            self.assertEqual(standing(Desk(heaps)), (heaps, (), heaps.count(0), 0))


class MoveTest(unittest.TestCase):
    def test_all_plans_of_small_heaps(self):
        for heaps in SMALL:
            for plan, behind in plain_plans(heaps, 3):
                self.assertEqual(standing(desk_behind(heaps, plan)), (behind, plan, behind.count(0), len(plan)))

    def test_how_many_go_over(self):
        for heaps in SMALL:
            for one, other in plain_steps(heaps):
                self.assertEqual(Desk(heaps).move(one, other), heaps[other])

    def test_steps_that_cannot_be_made(self):
        for heaps in SMALL:
            for one, other in product(range(-1, len(heaps) + 1), repeat=2):
                is_there = min(one, other) >= 0 and max(one, other) < len(heaps) and one != other
                if not is_there or plain_step(heaps, one, other) is None:
                    desk = Desk(heaps)
                    self.assertEqual(failure(desk.move, one, other), (BadStep,))
                    self.assertEqual(standing(desk), (heaps, (), heaps.count(0), 0))

    def test_values_of_every_kind(self):
        desk = Desk((4, 4))
        stood = standing(desk)
        for one, other in product(ANY_KINDS + [(0, 1), "1", [0], -2, 2], repeat=2):
            if one.__class__ is int and other.__class__ is int and {one, other} == {0, 1}:
                continue
            with self.subTest(repr((one, other))):
                self.assertEqual(failure(desk.move, one, other), (BadStep,))
                self.assertTrue(changes_nothing(desk.move, one, other))
        self.assertEqual(standing(desk), stood)

    def test_steps_count_behind_steps(self):
        desk = desk_behind((1, 2), ROUND[:1])
        self.assertEqual(failure(desk.move, 1, 0), (BadStep,))
        self.assertEqual(standing(desk), ((2, 1), ROUND[:1], 0, 1))
        self.assertEqual(desk.move(0, 1), 1)

    def test_heaps_above_the_limit(self):
        desk = Desk((LIMIT, LIMIT, LIMIT))
        self.assertEqual(desk.move(0, 1), LIMIT)
        self.assertEqual(desk.heaps, (0, 2 * LIMIT, LIMIT))
        self.assertEqual(desk.move(1, 2), LIMIT)
        self.assertEqual(failure(desk.move, 0, 2), (BadStep,))
        self.assertEqual(standing(desk.copy()), ((0, LIMIT, 2 * LIMIT), ((0, 1), (1, 2)), 1, 2))
        self.assertEqual(desk.move(2, 1), LIMIT)
        self.assertTrue(desk.undo())
        self.assertEqual(desk.heaps, (0, LIMIT, 2 * LIMIT))

    def test_plan_is_one_that_leads_from_the_first_heaps_to_the_heaps(self):
        for plan in (ROUND, ROUND * 20, ROUND * 50):
            desk = desk_behind((1, 2), plan)
            self.assertIsNone(judge((1, 2), desk.plan))
            self.assertEqual(made((1, 2), desk.plan), desk.heaps)

    def test_what_was_told_before_stays(self):
        desk = Desk((3, 5))
        heaps, plan = desk.heaps, desk.plan
        desk.move(1, 0)
        self.assertEqual((heaps, plan), ((3, 5), ()))


class FullTest(unittest.TestCase):
    def test_99_steps(self):
        desk = desk_behind((1, 2), ROUND * 49 + ROUND[:1])
        self.assertEqual(standing(desk), ((2, 1), ROUND * 49 + ROUND[:1], 0, 99))
        self.assertEqual(desk.move(0, 1), 1)
        self.assertEqual(standing(desk), ((1, 2), ROUND * 50, 0, 100))

    def test_100_steps(self):
        desk = full_desk()
        self.assertEqual(failure(desk.move, 1, 0), (Full,))
        self.assertEqual(standing(desk), ((1, 2), ROUND * 50, 0, 100))

    def test_step_that_cannot_be_made_on_a_full_desk(self):
        desk = full_desk()
        for one, other in ((0, 1), (0, 0), (2, 0), (-1, 0), (True, 0), (1, False), (None, 0), ("1", "0"), ([1], 0)):
            self.assertEqual(failure(desk.move, one, other), (BadStep,))
        self.assertEqual(standing(desk), ((1, 2), ROUND * 50, 0, 100))

    def test_undo_behind_a_full_desk(self):
        desk = full_desk()
        self.assertEqual(failure(desk.move, 1, 0), (Full,))
        self.assertIs(desk.undo(), True)
        self.assertEqual(standing(desk), ((2, 1), ROUND * 49 + ROUND[:1], 0, 99))
        self.assertEqual(desk.move(0, 1), 1)
        self.assertEqual(failure(desk.move, 1, 0), (Full,))

    def test_steps_that_were_taken_back_do_not_count(self):
        desk = Desk((1, 2))
        for _ in range(150):
            desk.move(1, 0)
            desk.undo()
        self.assertEqual(standing(desk), ((1, 2), (), 0, 0))
        self.assertEqual(desk.move(1, 0), 1)


class UndoTest(unittest.TestCase):
    def test_no_step(self):
        desk = Desk((3, 5))
        for _ in range(3):
            self.assertIs(desk.undo(), False)
            self.assertEqual(standing(desk), ((3, 5), (), 0, 0))
        self.assertEqual(desk.move(1, 0), 3)

    def test_all_plans_of_small_heaps(self):
        for heaps in SMALL:
            for plan, _ in plain_plans(heaps, 2):
                desk = desk_behind(heaps, plan)
                for many in range(len(plan), 0, -1):
                    self.assertIs(desk.undo(), True)
                    self.assertEqual(standing(desk), standing(desk_behind(heaps, plan[:many - 1])))
                self.assertIs(desk.undo(), False)

    def test_all_steps_of_a_full_desk(self):
        desk = full_desk()
        self.assertEqual([desk.undo() for _ in range(102)], [True] * 100 + [False] * 2)
        self.assertEqual(standing(desk), ((1, 2), (), 0, 0))

    def test_other_steps_behind_undo(self):
        desk = desk_behind((4, 4, 2), ((0, 1), (1, 2)))
        desk.undo()
        desk.undo()
        self.assertEqual(desk.move(1, 0), 4)
        self.assertEqual(standing(desk), ((8, 0, 2), ((1, 0),), 1, 1))


class CopyTest(unittest.TestCase):
    def test_copy_stands_as_the_desk(self):
        for heaps in SMALL:
            for plan, _ in plain_plans(heaps, 2):
                desk = desk_behind(heaps, plan)
                twin = desk.copy()
                self.assertIsNot(twin, desk)
                self.assertEqual(standing(twin), standing(desk))

    def test_copy_goes_on_on_its_own(self):
        desk = desk_behind((3, 5), ((1, 0),))
        twin = desk.copy()
        self.assertEqual(twin.move(0, 1), 2)
        self.assertEqual(standing(twin), ((4, 4), ((1, 0), (0, 1)), 0, 2))
        self.assertEqual(standing(desk), ((6, 2), ((1, 0),), 0, 1))
        desk.move(0, 1)
        desk.move(0, 1)
        self.assertEqual(standing(twin), ((4, 4), ((1, 0), (0, 1)), 0, 2))
        self.assertEqual(standing(desk), ((0, 8), ((1, 0), (0, 1), (0, 1)), 1, 3))

    def test_copy_takes_back_on_its_own(self):
        desk = desk_behind((3, 5), ((1, 0), (0, 1)))
        twin = desk.copy()
        self.assertEqual([twin.undo(), twin.undo(), twin.undo()], [True, True, False])
        self.assertEqual(standing(twin), ((3, 5), (), 0, 0))
        self.assertEqual(standing(desk), ((4, 4), ((1, 0), (0, 1)), 0, 2))
        other = desk.copy()
        desk.undo()
        self.assertEqual(standing(desk), ((6, 2), ((1, 0),), 0, 1))
        self.assertEqual(standing(other), ((4, 4), ((1, 0), (0, 1)), 0, 2))

    def test_copy_of_a_full_desk_is_full(self):
        desk = full_desk()
        twin = desk.copy()
        self.assertEqual(standing(twin), standing(desk))
        self.assertEqual(failure(twin.move, 1, 0), (Full,))
        self.assertEqual([twin.undo() for _ in range(101)], [True] * 100 + [False])
        self.assertEqual(standing(desk), ((1, 2), ROUND * 50, 0, 100))

    def test_copy_of_a_copy(self):
        desk = desk_behind((1, 1, 1), ((0, 1),))
        twin = desk.copy().copy()
        desk.undo()
        self.assertEqual(standing(twin), ((0, 2, 1), ((0, 1),), 1, 1))
        self.assertIs(twin.undo(), True)
        self.assertEqual(twin.heaps, (1, 1, 1))

    def test_desks_of_the_same_heaps_are_independent(self):
        heaps = (3, 5)
        desk, other = Desk(heaps), Desk(heaps)
        desk.move(1, 0)
        self.assertEqual(standing(other), ((3, 5), (), 0, 0))


if __name__ == "__main__":
    unittest.main()
