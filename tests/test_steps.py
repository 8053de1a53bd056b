"""Promise 18: the step of a share, and the least points for a step."""

import copy
import unittest
from fractions import Fraction

from gradewish.errors import BadPlace, BadStep, BadWish, GradeError, TooMany
from gradewish.steps import points_for, step_of
from gradewish.wishes import least_points
from tests import oracle

STEPS = [("very good", (9, 10)), ("good", (3, 4)), ("passed", (1, 2)), ("failed", (0, 1))]
HIGH_STEPS = STEPS[:3]
# The name "good" stands twice, and so does "poor".
TWICE = [("best", (19, 20)), ("good", (4, 5)), ("good", (3, 5)), ("poor", (2, 5)), ("poor", (1, 5))]

HALF = (1, 10, 10, (5,))
OPEN = (1, 10, 10, ())
TWELVE = (1, 10, 10, (5,) * 12)


def part(*tasks):
    return (1, 0, 0, tasks, ())


def forms(steps):
    return [steps, tuple(steps), [list(step) for step in steps]]


class StepOfTest(unittest.TestCase):
    def assert_step(self, steps, one, wanted):
        for form in forms(steps):
            before = copy.deepcopy(form)
            self.assertEqual(step_of(form, one), wanted)
            self.assertEqual(form, before)

    def test_between_two_steps_it_is_the_lower_one(self):
        self.assert_step(STEPS, (19, 20), "very good")
        self.assert_step(STEPS, (4, 5), "good")
        self.assert_step(STEPS, (3, 5), "passed")
        self.assert_step(STEPS, (1, 5), "failed")

    def test_a_share_equal_to_a_steps(self):
        for name, one in STEPS:
            self.assert_step(STEPS, one, name)

    def test_a_share_a_little_below_a_steps(self):
        self.assert_step(STEPS, (899999, 10 ** 6), "good")
        self.assert_step(STEPS, (749999, 10 ** 6), "passed")
        self.assert_step(STEPS, (499999, 10 ** 6), "failed")

    def test_a_share_a_little_above_a_steps(self):
        self.assert_step(STEPS, (900001, 10 ** 6), "very good")
        self.assert_step(STEPS, (750001, 10 ** 6), "good")
        self.assert_step(STEPS, (500001, 10 ** 6), "passed")

    def test_the_ends(self):
        self.assert_step(STEPS, (1, 1), "very good")
        self.assert_step(STEPS, (0, 1), "failed")

    def test_none_where_all_steps_are_above(self):
        self.assert_step(HIGH_STEPS, (499, 1000), None)
        self.assert_step(HIGH_STEPS, (0, 1), None)

    def test_none_without_steps(self):
        self.assert_step([], (1, 1), None)
        self.assert_step([], (0, 1), None)

    def test_one_step(self):
        self.assert_step([("passed", (1, 2))], (1, 2), "passed")
        self.assert_step([("passed", (1, 2))], (1, 1), "passed")
        self.assert_step([("passed", (1, 2))], (1, 3), None)

    def test_steps_above_1(self):
        self.assert_step([("more", (3, 2)), ("full", (1, 1))], (1, 1), "full")

    def test_names_alike(self):
        for one, name in (((9, 10), "good"), ((7, 10), "good"), ((3, 10), "poor"), ((1, 10), None)):
            self.assert_step(TWICE, one, name)

    def test_the_empty_text_is_a_name(self):
        self.assert_step([("", (1, 2)), ("failed", (0, 1))], (3, 4), "")

    def test_by_value(self):
        for bottom in range(1, 60):
            for top in range(bottom + 1):
                value = Fraction(top, bottom)
                wanted = next((name for name, one in HIGH_STEPS if Fraction(*one) <= value), None)
                self.assert_step(HIGH_STEPS, oracle.pair(value), wanted)


class PointsForTest(unittest.TestCase):
    def assert_points(self, course, at, number, steps, name, wanted):
        for form in forms(steps):
            for one in (course, oracle.as_lists(course), oracle.as_tuples(course)):
                found = points_for(one, at, number, form, name)
                self.assertEqual(found, wanted)
                self.assertIs(type(found), type(wanted))

    def test_least_points_for_each_step(self):
        course = [part(OPEN)]
        for name, wanted in (("very good", 9), ("good", 8), ("passed", 5), ("failed", 0)):
            self.assert_points(course, 0, 0, STEPS, name, wanted)

    def test_none_where_the_step_is_out_of_reach(self):
        self.assert_points([part(HALF, OPEN)], 0, 1, STEPS, "very good", None)
        self.assert_points([part(HALF, OPEN)], 0, 1, STEPS, "good", 10)

    def test_0_where_the_step_is_reached_in_any_case(self):
        self.assert_points([part(HALF)], 0, 0, STEPS, "passed", 0)
        self.assert_points([part(HALF)], 0, 0, STEPS, "failed", 0)

    def test_of_names_alike_the_first_step_counts(self):
        self.assert_points([part(OPEN)], 0, 0, TWICE, "good", 8)
        self.assert_points([part(OPEN)], 0, 0, TWICE, "poor", 4)

    def test_the_empty_text_is_a_name(self):
        self.assert_points([part(OPEN)], 0, 0, [("full", (1, 1)), ("", (1, 2))], "", 5)

    def test_the_place_is_taken_as_least_points_takes_it(self):
        course = [part(HALF, OPEN), part(OPEN, HALF, HALF)]
        self.assert_points(course, 1, 2, STEPS, "passed", 0)
        for at, number in ((0, 0), (0, 1), (1, 0), (1, 1), (1, 2)):
            for name, wish in STEPS:
                self.assert_points(course, at, number, STEPS, name, least_points(course, at, number, wish))

    def test_by_value(self):
        for course in oracle.some_courses(60, seed=31):
            for at, one in enumerate(course):
                for number in range(len(one[3])):
                    for name, wish in STEPS:
                        wanted = oracle.least_points_of(course, at, number, wish)
                        self.assertEqual(points_for(course, at, number, STEPS, name), wanted)

    def test_what_is_handed_in_stays(self):
        course = oracle.as_lists([part(HALF, OPEN)])
        steps = oracle.as_lists(STEPS)
        before = copy.deepcopy((course, steps))
        points_for(course, 0, 1, steps, "good")
        self.assertEqual((course, steps), before)


class RefusalsTest(unittest.TestCase):
    COURSE = [part(HALF, OPEN), part(), part(TWELVE)]

    def assert_refused(self, refusal, at, number, steps, name):
        for form in forms(steps):
            for course in (self.COURSE, oracle.as_lists(self.COURSE), oracle.as_tuples(self.COURSE)):
                with self.assertRaises(GradeError) as caught:
                    points_for(course, at, number, form, name)
                self.assertIs(type(caught.exception), refusal)

    def test_a_name_that_no_step_has(self):
        for name in ("excellent", "Good", "goo", "good ", ""):
            self.assert_refused(BadStep, 0, 0, STEPS, name)
        self.assert_refused(BadStep, 0, 0, [], "good")

    def test_a_name_that_no_step_has_comes_before_a_place_that_is_none(self):
        for at, number in ((3, 0), (-1, 0), (0, 2), (0, -1), (1, 0)):
            self.assert_refused(BadStep, at, number, STEPS, "excellent")

    def test_a_name_that_no_step_has_comes_before_twelve_tries(self):
        self.assert_refused(BadStep, 2, 0, STEPS, "excellent")

    def test_a_place_that_is_none(self):
        for at, number in ((3, 0), (-1, 0), (0, 2), (0, -1), (1, 0), (2, 1)):
            self.assert_refused(BadPlace, at, number, STEPS, "good")

    def test_twelve_tries_already(self):
        self.assert_refused(TooMany, 2, 0, STEPS, "good")
        self.assert_refused(TooMany, 2, 0, STEPS, "passed")

    def test_a_steps_share_that_is_no_wish(self):
        for wish in ((2, 4), (1, 0), (-1, 2)):
            self.assert_refused(BadWish, 0, 0, [("odd", wish)], "odd")
            self.assert_refused(BadPlace, 0, 2, [("odd", wish)], "odd")
            self.assert_refused(TooMany, 2, 0, [("odd", wish)], "odd")


if __name__ == "__main__":
    unittest.main()
