"""Promises 11, 12 and 13: the grade of a course, that more never makes it less, and the tale."""

import copy
import unittest
from fractions import Fraction

from gradewish.checks import checked
from gradewish.grades import grade, tale
from gradewish.parts import part_share
from tests import oracle

HALF = (1, 10, 10, (5,))
FULL = (1, 10, 10, (10,))
NOTHING = (1, 10, 10, (0,))
OPEN = (1, 10, 10, ())

ESSAY = (2, 20, 15, (11, 17))
TALK = (1, 10, 8, ())
TEST = (3, 40, 40, (10, 12, 12))
QUIZ = (1, 8, 0, (6, 8))


def part(weight, *tasks, worst=0, top=0, extras=()):
    return (weight, worst, top, tasks, extras)


class GradeTest(unittest.TestCase):
    def assert_grade(self, course, wanted):
        self.assertIs(checked(course), True)
        for form in oracle.forms(course):
            found = grade(form)
            self.assertEqual(found, wanted)
            self.assertIs(type(found), type(wanted))

    def test_of_one_part_is_its_share(self):
        self.assert_grade([part(1, HALF, FULL)], (3, 4))
        self.assert_grade([part(1000, HALF, FULL)], (3, 4))

    def test_of_alike_weights(self):
        self.assert_grade([part(1, HALF), part(1, FULL)], (3, 4))
        self.assert_grade([part(5, HALF), part(5, FULL), part(5, NOTHING)], (1, 2))

    def test_each_part_as_often_as_its_weight(self):
        self.assert_grade([part(3, HALF), part(1, FULL)], (5, 8))
        self.assert_grade([part(1, HALF), part(3, FULL)], (7, 8))
        self.assert_grade([part(1, HALF), part(2, FULL), part(3, NOTHING)], (5, 12))

    def test_the_weights_of_tasks_are_nothing_to_other_parts(self):
        self.assert_grade([part(1, (1000, 10, 0, (0,))), part(1, FULL)], (1, 2))

    def test_parts_without_a_share_do_not_count(self):
        self.assert_grade([part(3, HALF), part(1, OPEN), part(1, FULL)], (5, 8))
        self.assert_grade([part(9, top=1000, extras=(1000,)), part(3, HALF), part(1, FULL)], (5, 8))
        self.assert_grade([part(9, OPEN, top=1000, extras=(1000,)), part(1, HALF)], (1, 2))

    def test_none_where_no_part_has_a_share(self):
        self.assert_grade([], None)
        self.assert_grade([part(1)], None)
        self.assert_grade([part(1, OPEN)], None)
        self.assert_grade([part(1, OPEN, worst=1), part(2, top=9, extras=(9,)), part(3, OPEN, OPEN)], None)

    def test_a_part_with_share_0_counts(self):
        self.assert_grade([part(1, NOTHING)], (0, 1))
        self.assert_grade([part(1, NOTHING), part(1, HALF)], (1, 4))

    def test_left_out_tasks_and_extras_are_in_the_shares(self):
        course = [part(2, HALF, NOTHING, worst=1, top=100, extras=(60, 70)), part(1, HALF)]
        self.assert_grade(course, (17, 30))

    def test_a_part_that_is_full_brings_nothing_above_1_to_others(self):
        course = [part(1, FULL, top=1000, extras=(1000,)), part(1, NOTHING)]
        self.assert_grade(course, (1, 2))

    def test_six_parts(self):
        course = [part(weight, (1, 7, 7, (weight,))) for weight in range(1, 7)]
        self.assert_grade(course, (13, 21))

    def test_by_value(self):
        for course in oracle.some_courses(500, seed=11):
            self.assert_grade(course, oracle.pair(oracle.grade_of(course)))

    def test_courses_with_numbers_at_their_bounds(self):
        for seed in range(5):
            course = oracle.full_course(seed)
            self.assert_grade(course, oracle.pair(oracle.grade_of(course)))


class NeverLessTest(unittest.TestCase):
    def changes(self, course):
        """Each course that is this one with one thing more of what [12] names."""
        for at, one in enumerate(course):
            tasks, extras = one[3:]
            for number, task in enumerate(tasks):
                for tries in self.more_tries(task):
                    changed = (*task[:3], tries)
                    yield self.put(course, at, 3, tasks[:number] + (changed,) + tasks[number + 1:])
            yield self.put(course, at, 4, extras + (25,))
            for number, extra in enumerate(extras):
                yield self.put(course, at, 4, extras[:number] + (extra + 25,) + extras[number + 1:])

    def more_tries(self, task):
        _, most, _, tries = task
        if tries:
            for points in range(most + 1):
                yield tries + (points,)
        for at, points in enumerate(tries):
            for better in range(points + 1, most + 1):
                yield tries[:at] + (better,) + tries[at + 1:]

    def put(self, course, at, place, value):
        one = list(course[at])
        one[place] = value
        return course[:at] + [tuple(one)] + course[at + 1:]

    def test_more_points_more_extras_and_one_more_try(self):
        seen = 0
        for course in oracle.some_courses(150, seed=12):
            one = grade(course)
            for more in self.changes(course):
                self.assertIs(checked(more), True)
                if one is None:
                    self.assertIsNone(grade(more))
                else:
                    self.assertGreaterEqual(Fraction(*grade(more)), Fraction(*one), (course, more))
                    seen += 1
        self.assertGreater(seen, 4000)

    def test_the_first_try_of_an_open_task_may(self):
        self.assertEqual(grade([part(1, HALF, OPEN)]), (1, 2))
        self.assertEqual(grade([part(1, HALF, (1, 10, 10, (1,)))]), (3, 10))


class TaleTest(unittest.TestCase):
    def assert_tale(self, course, wanted):
        self.assertIs(checked(course), True)
        for form in oracle.forms(course):
            found = tale(form)
            self.assertEqual(found, wanted)
            self.assert_kinds(found)

    def assert_kinds(self, found):
        self.assertIs(type(found), list)
        for told in found:
            self.assertIs(type(told), tuple)
            one, left, rows = told
            self.assertIn(type(one), (tuple, type(None)))
            self.assertIs(type(left), tuple)
            self.assertIs(type(rows), list)
            for row in rows:
                self.assertIs(type(row), tuple)

    def test_word_by_word(self):
        course = [
            part(70, ESSAY, TALK, TEST, QUIZ, worst=1, top=50, extras=(10, 25)),
            part(30, TALK),
        ]
        self.assert_tale(course, [
            ((157, 200), (2,), [("kept", 15, 1), ("open", None, None), ("left out", 12, 1), ("kept", 6, 0)]),
            (None, (), [("open", None, None)]),
        ])

    def test_empty_course(self):
        self.assert_tale([], [])

    def test_parts_without_tasks(self):
        self.assert_tale([part(1), part(2, worst=3, top=9, extras=(9,))], [(None, (), []), (None, (), [])])

    def test_open_tasks_alone_leave_nothing_out(self):
        course = [part(1, OPEN, OPEN, worst=1, top=9, extras=(9,))]
        self.assert_tale(course, [(None, (), [("open", None, None), ("open", None, None)])])

    def test_several_left_out(self):
        course = [part(1, NOTHING, FULL, NOTHING, HALF, FULL, worst=3)]
        self.assert_tale(course, [((1, 1), (0, 2, 3), [
            ("left out", 0, 0), ("kept", 10, 0), ("left out", 0, 0), ("left out", 5, 0), ("kept", 10, 0),
        ])])

    def test_the_number_is_that_of_the_first_try_that_gives_the_mark(self):
        course = [part(1, (1, 10, 4, (3, 9, 4)), (1, 10, 4, (4, 9)), (1, 10, 10, (0, 0, 7)))]
        self.assert_tale(course, [((1, 2), (), [("kept", 4, 1), ("kept", 4, 0), ("kept", 7, 2)])])

    def test_the_tasks_left_out_are_told_by_their_numbers_with_open_ones_counted(self):
        course = [part(1, OPEN, HALF, OPEN, NOTHING, worst=2)]
        self.assert_tale(course, [((1, 2), (3,), [
            ("open", None, None), ("kept", 5, 0), ("open", None, None), ("left out", 0, 0),
        ])])

    def test_each_part_has_its_own(self):
        course = [part(1, HALF, NOTHING, worst=1), part(1, HALF, NOTHING)]
        self.assert_tale(course, [
            ((1, 2), (1,), [("kept", 5, 0), ("left out", 0, 0)]),
            ((1, 4), (), [("kept", 5, 0), ("kept", 0, 0)]),
        ])

    def test_by_value(self):
        for course in oracle.some_courses(400, seed=13):
            self.assert_tale(course, oracle.tale_of(course))

    def test_courses_with_numbers_at_their_bounds(self):
        for seed in range(3):
            course = oracle.full_course(seed)
            self.assert_tale(course, oracle.tale_of(course))

    def test_it_fits_the_shares_of_the_parts(self):
        for course in oracle.some_courses(50, seed=14):
            self.assertEqual([told[0] for told in tale(course)], [part_share(one) for one in course])


class OwnTaleTest(unittest.TestCase):
    def test_what_is_done_with_a_tale_changes_no_later_one(self):
        for course in oracle.forms([part(2, HALF, NOTHING, worst=1), part(1), part(1, OPEN)]):
            first = tale(course)
            before = copy.deepcopy(first)
            self.assertIsNot(tale(course), first)
            for (_, _, rows), (_, _, others) in zip(first, tale(course)):
                self.assertIsNot(rows, others)
            for _, _, rows in first:
                rows.append("mine")
                rows[0] = None
            first.reverse()
            first.pop()
            self.assertEqual(tale(course), before)

    def test_the_rows_of_parts_alike_are_lists_of_their_own(self):
        one = part(1, HALF)
        first, second = tale([one, one])
        first[2].clear()
        self.assertEqual(second[2], [("kept", 5, 0)])

    def test_a_course_that_is_changed_behind_changes_no_tale(self):
        course = oracle.as_lists([part(1, HALF, NOTHING, worst=1)])
        told = tale(course)
        before = copy.deepcopy(told)
        course[0][3][1][3].append(10)
        course[0][3].append([1, 10, 10, []])
        course.append([1, 0, 0, [], []])
        self.assertEqual(told, before)
        self.assertEqual(tale(course), [
            ((1, 1), (0,), [("left out", 5, 0), ("kept", 10, 1), ("open", None, None)]), (None, (), []),
        ])
        self.assertEqual(grade(course), (1, 1))


if __name__ == "__main__":
    unittest.main()
