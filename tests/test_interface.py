"""The interface: each name stands in its own file, with the arguments that the document tells."""

import importlib
import inspect
import unittest

from gradewish import errors

FUNCTIONS = {
    "gradewish.shares": {
        "share": ["top", "bottom"],
        "plus": ["one", "other"],
        "times": ["one", "number", "over"],
        "less": ["one", "other"],
    },
    "gradewish.checks": {"checked": ["course"]},
    "gradewish.tasks": {"gives": ["task"], "mark": ["task"], "chosen": ["task"]},
    "gradewish.parts": {"left_out": ["part"], "mean": ["part", "numbers"], "part_share": ["part"]},
    "gradewish.grades": {"grade": ["course"], "tale": ["course"]},
    "gradewish.wishes": {
        "tried": ["course", "part", "task", "points"],
        "reached": ["course", "wish"],
        "least_points": ["course", "part", "task", "wish"],
        "least_share": ["course", "wish"],
    },
    "gradewish.steps": {
        "step_of": ["steps", "one"],
        "points_for": ["course", "part", "task", "steps", "name"],
    },
}

REFUSALS = [
    "TooMany", "BadWeight", "BadWorst", "BadTop", "BadMost", "BadCap",
    "BadMark", "BadExtra", "BadPlace", "BadWish", "BadStep",
]


class FunctionsTest(unittest.TestCase):
    def test_each_function_is_defined_in_its_file_with_its_arguments(self):
        for file, functions in FUNCTIONS.items():
            module = importlib.import_module(file)
            for name, arguments in functions.items():
                with self.subTest(file=file, name=name):
                    function = getattr(module, name)
                    self.assertTrue(inspect.isfunction(function))
                    self.assertEqual(function.__module__, file)
                    self.assertEqual(list(inspect.signature(function).parameters), arguments)


class ErrorsTest(unittest.TestCase):
    def test_grade_error_lies_straight_under_value_error(self):
        self.assertEqual(errors.GradeError.__bases__, (ValueError,))
        self.assertEqual(errors.GradeError.__module__, "gradewish.errors")

    def test_each_lies_under_grade_error_and_under_no_other_one(self):
        for name in REFUSALS:
            refusal = getattr(errors, name)
            self.assertEqual(refusal.__name__, name)
            self.assertEqual(refusal.__module__, "gradewish.errors")
            self.assertTrue(issubclass(refusal, errors.GradeError))
            for other in REFUSALS:
                if other != name:
                    with self.subTest(name=name, other=other):
                        self.assertFalse(issubclass(refusal, getattr(errors, other)))

    def test_each_is_caught_as_a_grade_error_and_as_a_value_error(self):
        for name in REFUSALS:
            for caught in (errors.GradeError, ValueError):
                with self.subTest(name=name, caught=caught):
                    with self.assertRaises(caught):
                        raise getattr(errors, name)("told")


if __name__ == "__main__":
    unittest.main()
