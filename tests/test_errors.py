import copy
import pickle
import unittest

from heapsdouble import errors

PLAIN = ("BadHeaps", "BadStep", "BadMany", "TooGreat", "Full", "BadTotal")


class ErrorsTest(unittest.TestCase):
    def test_base_class(self):
        self.assertEqual(errors.HeapError.__bases__, (ValueError,))

    def test_all_stand_directly_under_the_base_class(self):
        for name in PLAIN + ("BadPlan", "InvalidText"):
            with self.subTest(name):
                self.assertEqual(getattr(errors, name).__bases__, (errors.HeapError,))

    def test_all_are_defined_in_this_file(self):
        for name in PLAIN + ("HeapError", "BadPlan", "InvalidText"):
            with self.subTest(name):
                self.assertEqual(getattr(errors, name).__module__, "heapsdouble.errors")
                self.assertEqual(getattr(errors, name).__name__, name)

    def test_errors_without_fields_take_nothing(self):
        for name in PLAIN + ("HeapError",):
            with self.subTest(name):
                error = getattr(errors, name)()
                self.assertEqual(vars(error), {})
                with self.assertRaises(TypeError):
                    getattr(errors, name)(1)

    def test_index_of_bad_plan(self):
        for index in (None, 0, 3, 19999):
            self.assertEqual(vars(errors.BadPlan(index)), {"index": index})
        with self.assertRaises(TypeError):
            errors.BadPlan()

    def test_line_and_word_of_invalid_text(self):
        self.assertEqual(vars(errors.InvalidText(2, 3)), {"line": 2, "word": 3})
        with self.assertRaises(TypeError):
            errors.InvalidText(2)

    def test_copies_have_the_same_fields(self):
        for error in (errors.HeapError(), errors.BadHeaps(), errors.BadPlan(None), errors.InvalidText(2, 3)):
            with self.subTest(repr(error)):
                self.assertEqual(vars(copy.deepcopy(error)), vars(error))
                self.assertEqual(repr(pickle.loads(pickle.dumps(error))), repr(error))


if __name__ == "__main__":
    unittest.main()
