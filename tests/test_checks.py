"""Promises 3, 4 and 5: courses, and the first refusal that is due."""

import copy
import itertools
import unittest

from gradewish.checks import checked
from gradewish.errors import (
    BadCap, BadExtra, BadMark, BadMost, BadTop, BadWeight, BadWorst, GradeError, TooMany,
)
from tests.oracle import as_tuples


def full_course():
    """A good course, all of lists: two parts, each with two tasks of two tries, and two extras."""
    return [[5, 1, 50, [[2, 10, 6, [3, 4]], [3, 10, 6, [3, 4]]], [7, 8]] for _ in range(2)]


def put(course, place, value):
    """Puts a value into a course of lists at a place, told as indexes from the outside in."""
    *way, last = place
    for at in way:
        course = course[at]
    course[last] = value


class CheckCase(unittest.TestCase):
    def forms(self, course):
        """The course all of lists, all of tuples, and the course alone a list or a tuple."""
        tuples = as_tuples(course)
        return [course, tuples, list(tuples), tuple(course)]

    def assert_good(self, course):
        for form in self.forms(course):
            self.assertIs(checked(form), True, form)

    def assert_refused(self, course, refusal):
        """Refused with this very class; every form of the course is."""
        for form in self.forms(course):
            before = copy.deepcopy(form)
            with self.assertRaises(GradeError) as caught:
                checked(form)
            self.assertIs(type(caught.exception), refusal, form)
            self.assertEqual(form, before)


class GoodCoursesTest(CheckCase):
    def test_ordinary_course(self):
        self.assert_good(full_course())

    def test_course_as_the_document_writes_it(self):
        essay = (2, 20, 15, (11, 17))
        talk = (1, 10, 8, ())
        written = (70, 1, 50, (essay, talk), (10, 25))
        spoken = (30, 0, 0, (talk,), ())
        self.assertIs(checked([written, spoken]), True)
        self.assertIs(checked((written, spoken)), True)

    def test_empty_course(self):
        self.assertIs(checked([]), True)
        self.assertIs(checked(()), True)

    def test_part_without_tasks_and_extras(self):
        self.assert_good([[1, 0, 0, [], []]])

    def test_part_without_tasks_that_leaves_out_three(self):
        self.assert_good([[1, 3, 0, [], [5]]])

    def test_task_without_tries(self):
        self.assert_good([[1, 0, 0, [[1, 1, 0, []]], []]])

    def test_least_of_each_number(self):
        self.assert_good([[1, 0, 0, [[1, 1, 0, [0]]], [0]]])

    def test_most_of_each_number_and_of_each_count(self):
        task = [1000, 10 ** 6, 10 ** 6, [10 ** 6] * 12]
        part = [1000, 3, 1000, [task] * 8, [1000] * 12]
        self.assert_good([part] * 6)

    def test_course_is_unchanged(self):
        course = full_course()
        before = copy.deepcopy(course)
        checked(course)
        self.assertEqual(course, before)

    def test_course_that_is_changed_behind_is_checked_anew(self):
        course = full_course()
        self.assertIs(checked(course), True)
        course[1][3][1][3].append(11)
        self.assert_refused(course, BadMark)
        course[1][3][1][3].pop()
        self.assertIs(checked(course), True)


# Each number of a course: its place, its least, its most, and how it is refused.
NUMBERS = []
for part_at in range(2):
    part_place = (part_at,)
    NUMBERS += [
        (part_place + (0,), 1, 1000, BadWeight),
        (part_place + (1,), 0, 3, BadWorst),
        (part_place + (2,), 0, 1000, BadTop),
    ]
    for task_at in range(2):
        task_place = part_place + (3, task_at)
        NUMBERS += [
            (task_place + (0,), 1, 1000, BadWeight),
            (task_place + (1,), 1, 10 ** 6, BadMost),
            (task_place + (2,), 0, 10, BadCap),
            (task_place + (3, 0), 0, 10, BadMark),
            (task_place + (3, 1), 0, 10, BadMark),
        ]
    NUMBERS += [
        (part_place + (4, 0), 0, 1000, BadExtra),
        (part_place + (4, 1), 0, 1000, BadExtra),
    ]


class NumbersTest(CheckCase):
    def changed(self, place, value):
        course = full_course()
        if place[1] == 3 and place[3] == 1:
            # With a most of 1 or a truth there, cap and tries shall still be good.
            course[place[0]][3][place[2]] = [2, 10, 0, [0, 0]]
        put(course, place, value)
        return course

    def test_least_and_most_are_good(self):
        for place, least, most, _ in NUMBERS:
            with self.subTest(place=place):
                self.assert_good(self.changed(place, least))
                self.assert_good(self.changed(place, most))

    def test_one_below_the_least_and_one_above_the_most(self):
        for place, least, most, refusal in NUMBERS:
            with self.subTest(place=place):
                self.assert_refused(self.changed(place, least - 1), refusal)
                self.assert_refused(self.changed(place, most + 1), refusal)

    def test_far_outside(self):
        for place, _, _, refusal in NUMBERS:
            with self.subTest(place=place):
                self.assert_refused(self.changed(place, -10 ** 12), refusal)
                self.assert_refused(self.changed(place, 10 ** 12), refusal)

    def test_truths_are_no_numbers(self):
        for place, _, _, refusal in NUMBERS:
            for truth in (True, False):
                with self.subTest(place=place, truth=truth):
                    self.assert_refused(self.changed(place, truth), refusal)

    def test_cap_and_tries_are_held_to_the_most_of_their_own_task(self):
        course = full_course()
        course[0][3][1] = [3, 1000, 1000, [1000]]
        self.assert_good(course)
        course[0][3][0] = [3, 10, 11, [10]]
        self.assert_refused(course, BadCap)
        course[0][3][0] = [3, 10, 10, [11]]
        self.assert_refused(course, BadMark)

    def test_a_try_above_the_cap_is_good(self):
        self.assert_good([[1, 0, 0, [[1, 10, 0, [10, 10]]], []]])

    def test_each_of_twelve_tries_and_extras_is_looked_at(self):
        for at in range(12):
            with self.subTest(at=at):
                tries = [1] * 12
                tries[at] = 11
                self.assert_refused([[1, 0, 0, [[1, 10, 6, tries]], []]], BadMark)
                extras = [1] * 12
                extras[at] = 1001
                self.assert_refused([[1, 0, 0, [], extras]], BadExtra)

    def test_each_of_six_parts_and_eight_tasks_is_looked_at(self):
        for part_at, task_at in itertools.product(range(6), range(8)):
            with self.subTest(part=part_at, task=task_at):
                course = [[1, 0, 0, [[1, 10, 6, []] for _ in range(8)], []] for _ in range(6)]
                course[part_at][3][task_at][1] = 0
                self.assert_refused(course, BadMost)


class CountsTest(CheckCase):
    def test_more_parts_than_6(self):
        part = [1, 0, 0, [], []]
        self.assert_good([part] * 6)
        self.assert_refused([part] * 7, TooMany)

    def test_more_tasks_than_8(self):
        task = [1, 1, 0, []]
        self.assert_good([[1, 0, 0, [task] * 8, []]])
        self.assert_refused([[1, 0, 0, [task] * 9, []]], TooMany)

    def test_more_tries_than_12(self):
        self.assert_good([[1, 0, 0, [[1, 1, 0, [1] * 12]], []]])
        self.assert_refused([[1, 0, 0, [[1, 1, 0, [1] * 13]], []]], TooMany)

    def test_more_extras_than_12(self):
        self.assert_good([[1, 0, 0, [], [1] * 12]])
        self.assert_refused([[1, 0, 0, [], [1] * 13]], TooMany)


def lengthened(place, many):
    """What makes the list at a place longer by many of its first item."""
    def change(course):
        for at in place:
            course = course[at]
        course.extend([copy.deepcopy(course[0]) for _ in range(many)])
    return change


def number_at(place, value):
    """What puts a number at a place."""
    def change(course):
        put(course, place, value)
    return change


def faults_in_order():
    """Each way to spoil the full course, with its refusal, in the order in which they are due."""
    faults = [(TooMany, lengthened((), 5))]
    for part in range(2):
        faults += [
            (BadWeight, number_at((part, 0), 0)),
            (BadWorst, number_at((part, 1), 4)),
            (BadTop, number_at((part, 2), True)),
            (TooMany, lengthened((part, 3), 7)),
        ]
        for task in range(2):
            faults += [
                (BadWeight, number_at((part, 3, task, 0), 1001)),
                (BadMost, number_at((part, 3, task, 1), 0)),
                (BadCap, number_at((part, 3, task, 2), -1)),
                (TooMany, lengthened((part, 3, task, 3), 11)),
                (BadMark, number_at((part, 3, task, 3, 1), -1)),
            ]
        faults += [
            (TooMany, lengthened((part, 4), 11)),
            (BadExtra, number_at((part, 4, 1), 1001)),
        ]
    return faults


class OrderTest(CheckCase):
    def test_each_fault_alone(self):
        for refusal, change in faults_in_order():
            course = full_course()
            change(course)
            self.assert_refused(course, refusal)

    def test_of_two_faults_the_first_one_that_is_due_is_told(self):
        numbered = list(enumerate(faults_in_order()))
        for (first, (refusal, change)), (second, (_, other)) in itertools.combinations(numbered, 2):
            with self.subTest(first=first, second=second):
                course = full_course()
                # The later one is put first: to lengthen a list copies what stands in it.
                other(course)
                change(course)
                self.assert_refused(course, refusal)

    def test_of_all_faults_that_are_left_the_first_one_is_told(self):
        faults = faults_in_order()
        for first, (refusal, _) in enumerate(faults):
            with self.subTest(first=first):
                course = full_course()
                for _, change in reversed(faults[first:]):
                    change(course)
                self.assert_refused(course, refusal)

    def test_a_part_is_done_with_before_the_next_one(self):
        course = full_course()
        course[0][4][1] = -1
        course[1][0] = 0
        self.assert_refused(course, BadExtra)

    def test_a_task_is_done_with_before_the_next_one(self):
        course = full_course()
        course[0][3][0][3][1] = 11
        course[0][3][1][0] = 0
        self.assert_refused(course, BadMark)

    def test_extras_stand_behind_all_tasks(self):
        course = full_course()
        course[0][3][1][3][1] = 11
        course[0][4] = [1001] * 13
        self.assert_refused(course, BadMark)
        course[0][3][1][3][1] = 10
        self.assert_refused(course, TooMany)

    def test_a_number_of_parts_is_looked_at_before_all_parts(self):
        self.assert_refused([[0, 4, -1, [], [1001]]] * 7, TooMany)

    def test_too_many_tries_are_told_before_bad_ones(self):
        self.assert_refused([[1, 0, 0, [[1, 1, 0, [2] * 13]], []]], TooMany)


if __name__ == "__main__":
    unittest.main()
