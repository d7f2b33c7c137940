import unittest
from itertools import product

from heapsdouble import texts as module
from heapsdouble.errors import BadHeaps, BadPlan, InvalidText
from heapsdouble.plans import pair_plan
from heapsdouble.texts import read_plan, write_plan
from tests.helpers import ANY_KINDS, LIMIT, NOT_HEAPS, NOT_PLANS, NOT_STEPS, all_heaps, changes_nothing, failure

ROUND = ((1, 0), (0, 1))
LONGEST = ROUND * 10000

# No numbers of heaps, as words. Some are integers for Python's int, some for its isdigit.
NOT_NUMBERS = [
    "x", "-1", "-0", "+3", "03", "00", "0_1", "1_0", "3.", "3.0", "1e3", "0x3", "3,", "(3", "None", "True", "heaps",
    "step", "\t3", "3\t", "3\r", "\u00a03", "3\u3000", "\x0b3", "3\x0c5", "\u0663", "\u00b3", "\u00bd", "\uff13",
    "\ud800", "\x00", "3\x00", "-", "+", "_", ".", "'3'", "\u2028",
    str(LIMIT + 1), str(LIMIT * 10), "9" * 31, "1" * 5000, "0" * 5000, "0" + str(LIMIT),
]


class InterfaceTest(unittest.TestCase):
    def test_functions_are_defined_in_this_file(self):
        for name in ("write_plan", "read_plan"):
            self.assertEqual(getattr(module, name).__module__, "heapsdouble.texts")

    def test_example(self):
        self.assertEqual(
            [write_plan((3, 5), ((1, 0),)).split("\n"), read_plan("heaps 3 5\nstep 0 1")],
            [["heaps 3 5", "step 1 0"], ((3, 5), ((0, 1),))])

    def test_example_of_an_error(self):
        with self.assertRaises(InvalidText) as caught:
            read_plan("heaps 3 5\nstep 0 0")
        self.assertEqual((caught.exception.line, caught.exception.word), (2, 3))

    def test_arguments_by_name(self):
        self.assertEqual(write_plan(heaps=(3, 5), plan=()), "heaps 3 5")
        self.assertEqual(read_plan(text="heaps 3 5"), ((3, 5), ()))


class WriteTest(unittest.TestCase):
    def test_what_is_no_heaps(self):
        for heaps in NOT_HEAPS:
            with self.subTest(repr(heaps)[:80]):
                self.assertEqual(failure(write_plan, heaps, ()), (BadHeaps,))

    def test_what_is_no_plan(self):
        for plan in NOT_PLANS:
            with self.subTest(repr(plan)):
                self.assertEqual(failure(write_plan, (4, 4), plan), (BadPlan, None))

    def test_what_is_no_step(self):
        for thing in NOT_STEPS:
            for index in (0, 1, 5):
                plan = (ROUND * 3)[:index] + (thing,) + ((0, 1), None)
                with self.subTest(repr(plan)):
                    self.assertEqual(failure(write_plan, (1, 2), plan), (BadPlan, index))

    def test_plan_that_is_too_long(self):
        self.assertEqual(failure(write_plan, (1, 2), LONGEST + ROUND[:1]), (BadPlan, None))
        self.assertEqual(failure(write_plan, (1, 2), (None,) * 20001), (BadPlan, None))
        self.assertEqual(failure(write_plan, (1, 2), (None,) * 20000), (BadPlan, 0))

    def test_bad_heaps_come_before_bad_plan(self):
        for heaps in ([3, 5], (0, 0), (True, 5), (1,) * 7):
            for value in ANY_KINDS:
                self.assertEqual(failure(write_plan, heaps, value), (BadHeaps,))

    def test_arguments_stay_unchanged(self):
        for heaps in NOT_HEAPS:
            self.assertTrue(changes_nothing(write_plan, heaps, ROUND))
        for value in NOT_PLANS + [(step,) for step in NOT_STEPS]:
            self.assertTrue(changes_nothing(write_plan, (3, 5), value))

    def test_heaps_alone(self):
        self.assertEqual(write_plan((0, 7), ()), "heaps 0 7")
        self.assertEqual(write_plan((1, 2, 3, 4, 5, 6), ()), "heaps 1 2 3 4 5 6")
        self.assertEqual(write_plan((LIMIT, 0), ()), "heaps 1" + "0" * 30 + " 0")

    def test_steps_need_not_be_such_that_can_be_made(self):
        self.assertEqual(write_plan((3, 5), ((0, 1), (0, 1))), "heaps 3 5\nstep 0 1\nstep 0 1")
        self.assertEqual(write_plan((0, 0, 1), ((0, 1),)), "heaps 0 0 1\nstep 0 1")

    def test_heaps_of_a_step_are_those_of_these_heaps(self):
        self.assertEqual(write_plan((1,) * 6, ((5, 0), (0, 5))), "heaps 1 1 1 1 1 1\nstep 5 0\nstep 0 5")
        self.assertEqual(failure(write_plan, (1,) * 5, ((4, 0), (0, 5))), (BadPlan, 1))

    def test_longest_plan(self):
        text = write_plan((1, 2), LONGEST)
        self.assertEqual(text, "heaps 1 2" + "\nstep 1 0\nstep 0 1" * 10000)


class RoundTest(unittest.TestCase):
    def look_at(self, heaps, plan):
        self.assertEqual(read_plan(write_plan(heaps, plan)), (heaps, plan))

    def test_small_heaps_with_all_plans_of_two_steps(self):
        for heaps in all_heaps(2, 5) + all_heaps(3, 3):
            pairs = [(a, b) for a, b in product(range(len(heaps)), repeat=2) if a != b]
            for many in (0, 1, 2):
                for plan in product(pairs, repeat=many):
                    self.look_at(heaps, plan)

    def test_great_heaps(self):
        for heaps in ((LIMIT, LIMIT), (LIMIT,) * 6, (0, 0, 0, 0, 0, 1), (LIMIT, LIMIT - 1, 7, 10 ** 15)):
            self.look_at(heaps, ())
            self.look_at(heaps, pair_plan(heaps))

    def test_longest_plan(self):
        self.look_at((1, 2), LONGEST)
        self.look_at((2, 1, 0, 7, 8, LIMIT), tuple([(index % 5, 5) for index in range(20000)]))

    def test_kinds_of_values(self):
        heaps, plan = read_plan("heaps 3 5\nstep 0 1")
        for value in (heaps, plan, plan[0], read_plan("heaps 3 5")):
            self.assertIs(value.__class__, tuple)
        for number in heaps + plan[0]:
            self.assertIs(number.__class__, int)


class ReadTest(unittest.TestCase):
    def look_at(self, text, line, word):
        with self.subTest(text[:80]):
            self.assertEqual(failure(read_plan, text), (InvalidText, line, word))

    def test_heaps_alone(self):
        self.assertEqual(read_plan("heaps 3 5"), ((3, 5), ()))
        self.assertEqual(read_plan("heaps 0 7"), ((0, 7), ()))
        self.assertEqual(read_plan("heaps 7 0"), ((7, 0), ()))
        self.assertEqual(read_plan("heaps 1 2 3 4 5 6"), ((1, 2, 3, 4, 5, 6), ()))
        self.assertEqual(read_plan("heaps 0 0 0 0 0 1"), ((0, 0, 0, 0, 0, 1), ()))

    def test_other_numbers_of_heaps(self):
        self.look_at("heaps", 1, 2)
        self.look_at("heaps 3", 1, 3)
        self.look_at("heaps 0", 1, 3)
        self.look_at("heaps 3\nstep 0 1", 1, 3)
        self.look_at("heaps 1 2 3 4 5 6 7", 1, 8)
        self.look_at("heaps 1 2 3 4 5 6 x", 1, 8)
        self.look_at("heaps 1 2 3 4 5 6 7 8 9", 1, 8)
        self.look_at("heaps 0 0 0 0 0 0 0", 1, 8)
        self.look_at("heaps 0 0 0 0 0 0 1", 1, 8)

    def test_heaps_that_are_all_0(self):
        for many in range(2, 7):
            self.look_at("heaps" + " 0" * many, 1, many + 1)
            self.look_at("heaps" + " 0" * many + "  \nstep 0 0", 1, many + 1)
        self.look_at("heaps 0 0 x", 1, 4)
        self.look_at("heaps 0 00", 1, 3)

    def test_greatest_number(self):
        for heaps in ((LIMIT, 0), (0, LIMIT), (LIMIT,) * 6, (LIMIT - 1, 1)):
            self.assertEqual(read_plan("heaps " + " ".join(map(str, heaps))), (heaps, ()))
        self.look_at(f"heaps {LIMIT + 1} 0", 1, 2)
        self.look_at(f"heaps 0 {LIMIT + 1}", 1, 3)
        self.look_at(f"heaps {LIMIT} {LIMIT} {LIMIT} {LIMIT} {LIMIT} {LIMIT + 1}", 1, 7)

    def test_what_is_no_number_of_a_heap(self):
        for word in NOT_NUMBERS:
            self.look_at(f"heaps {word} 5", 1, 2)
            self.look_at(f"heaps 3 {word}", 1, 3)
            self.look_at(f"heaps 3 5 {word} x", 1, 4)
            self.look_at(f"heaps 0 0 0 0 0 {word}", 1, 7)

    def test_first_word(self):
        for word in ("Heaps", "HEAPS", "heap", "heapss", "heaps:", "step", "3", "\theaps", "heaps\t", "\ufeffheaps",
                     "heaps\u00a03"):
            self.look_at(f"{word} 3 5", 1, 1)
        self.look_at("heaps\t3 5", 1, 1)
        self.look_at("heaps\t3\t5", 1, 1)
        self.look_at("heaps3 5", 1, 1)
        self.look_at("3 5", 1, 1)
        self.look_at("step 0 1\nheaps 3 5", 1, 1)

    def test_first_word_of_a_step(self):
        for word in ("Step", "STEP", "steps", "stp", "heaps", "0", "step:", "\tstep", "step\r"):
            self.look_at(f"heaps 3 5\n{word} 1 0", 2, 1)
        self.look_at("heaps 3 5\nheaps 3 5", 2, 1)
        self.look_at("heaps 3 5\n1 0", 2, 1)
        self.look_at("heaps 3 5\nstep 1 0\nstep\t1 0", 3, 1)

    def test_steps_that_cannot_be_made(self):
        self.assertEqual(read_plan("heaps 3 5\nstep 0 1\nstep 0 1\nstep 1 0"), ((3, 5), ((0, 1), (0, 1), (1, 0))))
        self.assertEqual(read_plan("heaps 5 0\nstep 0 1\nstep 1 0"), ((5, 0), ((0, 1), (1, 0))))

    def test_step_of_one_heap(self):
        for many in range(2, 7):
            for place in range(many):
                self.look_at("heaps" + " 1" * many + f"\nstep {place} {place}", 2, 3)
        self.look_at("heaps 3 5\nstep 0 0 1", 2, 3)

    def test_step_of_a_heap_that_is_not_there(self):
        for many in range(2, 7):
            heaps = "heaps" + " 1" * many
            self.assertEqual(read_plan(f"{heaps}\nstep {many - 1} 0")[1], ((many - 1, 0),))
            for place in (many, many + 1, 10, 11, LIMIT):
                self.look_at(f"{heaps}\nstep {place} 0", 2, 2)
                self.look_at(f"{heaps}\nstep 0 {place}", 2, 3)
                self.look_at(f"{heaps}\nstep {place} {place}", 2, 2)

    def test_what_is_no_number_of_a_step(self):
        for word in NOT_NUMBERS + ["01", "-2"]:
            self.look_at(f"heaps 1 1 1 1 1 1\nstep {word} 0", 2, 2)
            self.look_at(f"heaps 1 1 1 1 1 1\nstep 0 {word}", 2, 3)
            self.look_at(f"heaps 1 1 1 1 1 1\nstep {word}", 2, 2)

    def test_words_too_few_and_too_many(self):
        self.look_at("heaps 3 5\nstep", 2, 2)
        self.look_at("heaps 3 5\nstep ", 2, 2)
        self.look_at("heaps 3 5\nstep 1", 2, 3)
        self.look_at("heaps 3 5\nstep 1  ", 2, 3)
        self.look_at("heaps 3 5\nstep 1 0 1", 2, 4)
        self.look_at("heaps 3 5\nstep 1 0 step 1 0", 2, 4)
        self.look_at("heaps 3 5\nstep 1 0 x", 2, 4)
        self.look_at("heaps 3 5 step 1 0", 1, 4)

    def test_empty_lines(self):
        for empty in ("", " ", "    "):
            self.look_at(empty, 1, 1)
            self.look_at(f"{empty}\nheaps 3 5", 1, 1)
            self.look_at(f"heaps 3 5\n{empty}", 2, 1)
            self.look_at(f"heaps 3 5\n{empty}\nstep 1 0", 2, 1)
            self.look_at(f"heaps 3 5\nstep 1 0\n{empty}", 3, 1)
            self.look_at(f"heaps 3 5\nstep 1 0\n{empty}\n", 3, 1)
            self.look_at(f"heaps 3 5\nstep 1 0\n{empty}\nstep 0 1", 3, 1)
        self.look_at("\n", 1, 1)
        self.look_at("\n\n\n", 1, 1)

    def test_spaces(self):
        told = ((3, 5), ((1, 0), (0, 1)))
        self.assertEqual(read_plan("   heaps   3 5  \n step  1    0\nstep 0 1     "), told)
        self.assertEqual(read_plan("heaps 3 5 \n  step 1 0 \n    step   0  1"), told)
        self.look_at("  heaps   3    x  5", 1, 3)
        self.look_at("  heaps 3 5\n    step    0   0   ", 2, 3)
        self.look_at("hea ps 3 5", 1, 1)

    def test_only_newlines_part_lines(self):
        for mark in ("\r", "\x0b", "\x0c", "\x1c", "\x85", "\u2028", "\u2029", "\\n", ";"):
            self.look_at(f"heaps 3 5{mark}step 1 0", 1, 3)
        self.look_at("heaps 3 5\r\nstep 1 0", 1, 3)
        self.look_at("heaps 3 5\nstep 1 0\r\nstep 0 1", 2, 3)

    def test_first_line_that_cannot_stand_is_told(self):
        self.look_at("heaps 3 5\nstep 1 0\nstep 0 2\nstep 0 0", 3, 3)
        self.look_at("heaps 3 5\nstep 1 0\nx\nheaps", 3, 1)
        self.look_at("heaps 3 x\nx", 1, 3)

    def test_step_20000_and_20001(self):
        text = "heaps 1 2" + "\nstep 1 0\nstep 0 1" * 10000
        self.assertEqual(read_plan(text), ((1, 2), LONGEST))
        for line in ("step 1 0", "step 0 0", "step", "step 1 0 0", "x", "", "  "):
            self.look_at(text + "\n" + line, 20002, 1)
            self.look_at(text + "\n" + line + "\nstep 1 0", 20002, 1)
        self.look_at(text[:-1] + "0\nstep 1 0", 20001, 3)
        self.look_at(text[:-4] + "\nstep 1 0", 20001, 2)

    def test_words_of_thousands_of_figures(self):
        for word in ("1" * 5000, "0" * 5000, "0" * 5000 + "1", "-" + "1" * 5000):
            self.look_at(f"heaps 3 {word}", 1, 3)
            self.look_at(f"heaps 3 5\nstep 1 {word}", 2, 3)


if __name__ == "__main__":
    unittest.main()
