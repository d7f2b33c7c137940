"""What the document promises over the whole program, looked at for each function of the interface."""

import copy
import importlib
import inspect
import unittest

from heapsdouble import errors
from heapsdouble.desks import Desk
from tests.helpers import ANY_KINDS, LIMIT, changes_nothing, failure

INTERFACE = {
    "steps": {"steps": ["heaps"], "before": ["heaps"], "stepped": ["heaps", "step"], "made": ["heaps", "plan"],
              "judge": ["heaps", "plan"], "is_first": ["heaps"]},
    "pairs": {"after": ["heaps", "many"], "ends_after": ["heaps"], "tail_and_ring": ["heaps"]},
    "plans": {"odd_part": ["heaps"], "empty_plan": ["heaps"], "pair_plan": ["heaps"], "one_plan": ["heaps"]},
    "small": {"reachable": ["heaps"], "fewest": ["heaps"], "way": ["heaps", "aim"],
              "many_ways": ["heaps", "aim", "steps"]},
    "rings": {"rings": ["total"], "tails": ["total"], "ending": ["total"]},
    "games": {"winner": ["heaps"], "forced": ["heaps"], "good_steps": ["heaps"]},
    "hardest": {"hardest": ["many", "total"], "returning": ["many", "total"]},
    "desks": {"Desk": ["heaps"]},
    "texts": {"write_plan": ["heaps", "plan"], "read_plan": ["text"]},
}

PLAN = ((1, 0), (0, 1), (0, 1))

# Calls that succeed, at least one of each function.
CALLS = [
    ("steps", "steps", (3, 5)), ("steps", "steps", (4, 4, 0)), ("steps", "before", (6, 2, 0)),
    ("steps", "is_first", (3, 5)), ("steps", "stepped", (3, 5), (1, 0)), ("steps", "made", (3, 5), PLAN),
    ("steps", "judge", (3, 5), PLAN), ("steps", "judge", (5, 3), PLAN),
    ("pairs", "after", (3, 5), 2), ("pairs", "after", (1, LIMIT), LIMIT), ("pairs", "ends_after", (3, 5)),
    ("pairs", "ends_after", (1, 2)), ("pairs", "tail_and_ring", (1, 5)),
    ("plans", "odd_part", (3, 5, 4)), ("plans", "empty_plan", (3, 5, 4)), ("plans", "pair_plan", (1, 2, 3, 4)),
    ("plans", "one_plan", (3, 5, 8)), ("plans", "one_plan", (3, 5, 4)), ("plans", "empty_plan", (LIMIT, 7, 11)),
    ("small", "reachable", (1, 2, 3)), ("small", "fewest", (1, 2, 3)), ("small", "fewest", (1, 2)),
    ("small", "way", (1, 2, 3), (2, 4, 0)), ("small", "way", (1, 2), (3, 0)),
    ("small", "many_ways", (1, 2, 3), (2, 4, 0), 2),
    ("rings", "rings", 30), ("rings", "tails", 6), ("rings", "ending", 8), ("rings", "rings", 8),
    ("games", "winner", (3, 3)), ("games", "forced", (1, 3)), ("games", "forced", (1, 2)),
    ("games", "good_steps", (1, 1, 5)), ("games", "good_steps", (1, 2)),
    ("hardest", "hardest", 3, 6), ("hardest", "hardest", 4, 9), ("hardest", "returning", 3, 6),
    ("texts", "write_plan", (3, 5), PLAN), ("texts", "read_plan", "heaps 3 5\nstep 0 1"),
]

# Which error a value of no use raises, by the argument that it is passed for.
ERRORS = {"heaps": "BadHeaps", "aim": "BadHeaps", "step": "BadStep", "plan": "BadPlan", "many": "BadMany",
          "steps": "BadMany", "total": "BadTotal"}


def called(file, name):
    return getattr(importlib.import_module("heapsdouble." + file), name)


def wrong_ones(value):
    """Return values that stand in for a good one, and may not: other kinds, lists for tuples, True for integers."""
    if isinstance(value, int):
        return [str(value), (value,), [value], None, True, False, {value: value}, Desk((3, 5)), errors.BadHeaps()]
    others = [list(value), None, True, 7, "35", {0: 3, 1: 5}, Desk((3, 5)), errors.BadMany(), str(value)]
    if all(isinstance(part, int) for part in value):
        others += [(True,) + value[1:], value[:-1] + (False,), (str(value[0]),) + value[1:], ([],) + value[1:],
                   value[:-1] + (None,), value[:-1] + (-1,), (value, value), ({},) + value[1:],
                   (Desk((3, 5)),) + value[1:], value[:1]]
    else:
        others += [tuple(map(list, value)), ((True, False),) + value[1:], (None,) + value[1:], ((0, 0),) + value[1:],
                   value + ((0, True),), value + ([1, 0],), ((0, 6),) + value, value + (Desk((3, 5)),)]
    return others


def changed_lists(value):
    """Change all lists that stand in value, and return how many there are."""
    many = 0
    if isinstance(value, (list, tuple)):
        for part in value:
            many += changed_lists(part)
    if isinstance(value, list):
        value.append("mark")
        value.insert(0, None)
        many += 1
    return many


class InterfaceTest(unittest.TestCase):
    def test_all_is_defined_in_its_file_with_its_arguments(self):
        for file, names in INTERFACE.items():
            for name, arguments in names.items():
                with self.subTest(file + "." + name):
                    thing = called(file, name)
                    self.assertEqual((thing.__module__, thing.__name__), ("heapsdouble." + file, name))
                    self.assertEqual(list(inspect.signature(thing).parameters), arguments)
                    self.assertEqual(inspect.isclass(thing), name == "Desk")

    def test_each_function_is_called_here(self):
        expected = {(file, name) for file, names in INTERFACE.items() for name in names if name != "Desk"}
        self.assertEqual({call[:2] for call in CALLS}, expected)

    def test_arguments_by_name(self):
        for file, name, *arguments in CALLS:
            by_name = dict(zip(INTERFACE[file][name], arguments))
            self.assertEqual(called(file, name)(**by_name), called(file, name)(*arguments))


class CallsTest(unittest.TestCase):
    def test_arguments_stay_unchanged(self):
        for file, name, *arguments in CALLS:
            with self.subTest((file, name)):
                kept = copy.deepcopy(arguments)
                called(file, name)(*arguments)
                self.assertEqual(arguments, kept)

    def test_equal_calls_give_equal_results(self):
        for file, name, *arguments in CALLS:
            with self.subTest((file, name)):
                first = called(file, name)(*arguments)
                for other_file, other_name, *others in CALLS[::5]:
                    called(other_file, other_name)(*others)
                second = called(file, name)(*copy.deepcopy(arguments))
                self.assertEqual(first, second)
                self.assertIs(first.__class__, second.__class__)

    def test_returned_lists_are_new(self):
        many = 0
        for file, name, *arguments in CALLS:
            with self.subTest((file, name)):
                first = called(file, name)(*arguments)
                kept = copy.deepcopy(first)
                many += changed_lists(first)
                self.assertEqual(called(file, name)(*arguments), kept)
        self.assertGreaterEqual(many, 10)


class WrongValuesTest(unittest.TestCase):
    def wrong_calls(self):
        """Yield (call's name, function, arguments, place of the wrong one) of all calls with one wrong argument."""
        for file, name, *arguments in CALLS:
            for place, value in enumerate(arguments):
                if not isinstance(value, str):
                    for wrong in wrong_ones(value):
                        yield name, called(file, name), arguments[:place] + [wrong] + arguments[place + 1:], place

    def names_of(self, name):
        return [arguments for names in INTERFACE.values() for key, arguments in names.items() if key == name][0]

    def test_each_wrong_argument_raises_its_error(self):
        for name, function, arguments, place in self.wrong_calls():
            with self.subTest(name + repr(arguments)):
                found = failure(function, *arguments)
                self.assertIsNotNone(found)
                self.assertEqual(found[0].__name__, ERRORS[self.names_of(name)[place]])

    def test_first_wrong_argument_is_told(self):
        for name, function, arguments, place in self.wrong_calls():
            expected = failure(function, *arguments)
            for later in range(place + 1, len(arguments)):
                for wrong in ANY_KINDS[:12] + [[], {}, Desk((3, 5)), (0, 0), -1, LIMIT + 1]:
                    both = arguments[:later] + [wrong] + arguments[later + 1:]
                    with self.subTest(name + repr(both)):
                        self.assertEqual(failure(function, *both), expected)

    def test_wrong_arguments_stay_unchanged(self):
        for name, function, arguments, _ in self.wrong_calls():
            self.assertTrue(changes_nothing(function, *arguments), name)

    def test_wrong_calls_change_no_later_answer(self):
        before = [called(file, name)(*arguments) for file, name, *arguments in CALLS]
        for _, function, arguments, _ in self.wrong_calls():
            failure(function, *arguments)
        self.assertEqual([called(file, name)(*arguments) for file, name, *arguments in CALLS], before)

    def test_fields_of_bad_plan(self):
        for name in ("made", "judge"):
            function = called("steps", name)
            self.assertEqual(failure(function, (3, 5), list(PLAN)), (errors.BadPlan, None))
            self.assertEqual(failure(function, (3, 5), PLAN + ([1, 0],)), (errors.BadPlan, 3))
            self.assertEqual(failure(function, (3, 5), PLAN + ((True, 0),)), (errors.BadPlan, 3))
        self.assertEqual(failure(called("texts", "write_plan"), (3, 5), PLAN + ((1, False),)), (errors.BadPlan, 3))

    def test_desks_that_are_passed_stand_as_they_stood(self):
        desk = Desk((3, 5))
        desk.move(1, 0)
        for file, names in INTERFACE.items():
            for name, arguments in names.items():
                if name != "read_plan":
                    for place in range(len(arguments)):
                        others = [(3, 5), (1, 0), 1][:place]
                        failure(called(file, name), *others, *[desk] * (len(arguments) - place))
        self.assertEqual((desk.heaps, desk.plan, len(desk)), ((6, 2), ((1, 0),), 1))

    def test_a_desk_stands_as_it_stood_behind_each_error(self):
        desk = Desk((4, 4, 0))
        desk.move(0, 1)
        for one in ANY_KINDS + [0, 2, 3, -1]:
            for other in ANY_KINDS + [0, 2, 3, -1]:
                self.assertEqual(failure(desk.move, one, other), (errors.BadStep,))
        self.assertEqual((desk.heaps, desk.plan, desk.empties(), len(desk)), ((0, 8, 0), ((0, 1),), 2, 1))
        self.assertIs(desk.undo(), True)
        self.assertEqual(desk.heaps, (4, 4, 0))


class ErrorsTest(unittest.TestCase):
    def test_all_errors_are_caught_as_heap_errors_and_value_errors(self):
        fields = {"BadPlan": (3,), "InvalidText": (2, 3)}
        for name in ("BadHeaps", "BadStep", "BadPlan", "BadMany", "TooGreat", "Full", "BadTotal", "InvalidText"):
            error = getattr(errors, name)(*fields.get(name, ()))
            self.assertEqual(error.__class__.__mro__[1:3], (errors.HeapError, ValueError))

    def test_objects_are_equal_to_nothing_of_another_kind(self):
        things = [Desk((3, 5)), errors.BadHeaps(), errors.BadPlan(0), errors.InvalidText(1, 2)]
        for thing in things:
            for value in [(3, 5), 0, 1, None, "", (), [], {}, (1, 2), True, False]:
                self.assertFalse(thing == value)
                self.assertTrue(thing != value)
        for index, thing in enumerate(things):
            self.assertNotIn(thing, things[:index] + things[index + 1:])


if __name__ == "__main__":
    unittest.main()
