"""Promise 1 over the whole program: nothing handed in is changed or hung on, and lists are the asker's own."""

import copy
import unittest

from gradewish.checks import checked
from gradewish.grades import grade, tale
from gradewish.parts import left_out, mean, part_share
from gradewish.shares import less, plus, share, times
from gradewish.steps import points_for, step_of
from gradewish.tasks import chosen, gives, mark
from gradewish.wishes import least_points, least_share, reached, tried
from tests import oracle

COURSE = [
    (70, 1, 50, ((2, 20, 15, (11, 17)), (1, 10, 8, ()), (3, 40, 40, (10, 12, 12)), (1, 8, 0, (6, 8))), (10, 25)),
    (30, 2, 0, ((1, 10, 8, ()),), ()),
    (5, 0, 9, (), (4,)),
]
STEPS = [("good", (3, 4)), ("passed", (1, 2)), ("failed", (0, 1))]

# Each function that is asked about a course, with what it is handed besides.
QUESTIONS = [
    (checked, lambda course: (course,)),
    (grade, lambda course: (course,)),
    (tale, lambda course: (course,)),
    (gives, lambda course: (course[0][3][0],)),
    (mark, lambda course: (course[0][3][2],)),
    (chosen, lambda course: (course[0][3][2],)),
    (left_out, lambda course: (course[0],)),
    (mean, lambda course: (course[0], [0, 3])),
    (part_share, lambda course: (course[0],)),
    (tried, lambda course: (course, 1, 0, 7)),
    (reached, lambda course: (course, [3, 4])),
    (least_points, lambda course: (course, 1, 0, [3, 4])),
    (least_share, lambda course: (course, [3, 4])),
    (points_for, lambda course: (course, 1, 0, oracle.as_lists(STEPS), "good")),
    (step_of, lambda course: (oracle.as_lists(STEPS), [2, 3])),
    (share, lambda course: (6, 4)),
    (plus, lambda course: ([1, 2], [1, 3])),
    (times, lambda course: ([1, 2], 2, 3)),
    (less, lambda course: ([1, 2], [1, 3])),
]
# What these answer for the course above, whatever has been asked or done before.
ANSWERS = {
    checked: True,
    grade: (157, 200),
    gives: [11, 15],
    mark: 12,
    chosen: 1,
    left_out: (2,),
    mean: (3, 4),
    part_share: (157, 200),
    reached: True,
    least_points: 7,
    least_share: 601,
    points_for: 7,
    step_of: "passed",
    share: (3, 2),
    plus: (5, 6),
    times: (1, 3),
    less: False,
}


def spoil(value):
    """Empties all lists in a value."""
    if isinstance(value, (list, tuple)):
        for one in value:
            spoil(one)
    if isinstance(value, list):
        value.clear()


class WholeTest(unittest.TestCase):
    def test_answers(self):
        for function, wanted in ANSWERS.items():
            handed = dict(QUESTIONS)[function](COURSE)
            with self.subTest(function=function.__name__):
                self.assertEqual(function(*handed), wanted)

    def test_nothing_handed_in_is_changed(self):
        for function, handed_in in QUESTIONS:
            handed = handed_in(oracle.as_lists(COURSE))
            before = copy.deepcopy(handed)
            function(*handed)
            with self.subTest(function=function.__name__):
                self.assertEqual(handed, before)

    def test_lists_and_tuples_are_answered_alike(self):
        for function, handed_in in QUESTIONS:
            with self.subTest(function=function.__name__):
                wanted = function(*handed_in(COURSE))
                self.assertEqual(function(*handed_in(oracle.as_lists(COURSE))), wanted)
                self.assertEqual(function(*handed_in(oracle.as_tuples(COURSE))), wanted)

    def test_nothing_done_to_an_answer_changes_a_later_one_or_the_course(self):
        for function, handed_in in QUESTIONS:
            with self.subTest(function=function.__name__):
                course = oracle.as_lists(COURSE)
                found = function(*handed_in(course))
                before = copy.deepcopy(found)
                spoil(found)
                self.assertEqual(oracle.as_tuples(course), tuple(COURSE))
                self.assertEqual(function(*handed_in(course)), before)

    def test_nothing_hangs_on_what_was_handed_in(self):
        for function, handed_in in QUESTIONS:
            with self.subTest(function=function.__name__):
                handed = handed_in(oracle.as_lists(COURSE))
                found = function(*handed)
                before = copy.deepcopy(found)
                spoil(handed)
                self.assertEqual(found, before)

    def test_a_course_that_is_changed_behind_is_answered_anew(self):
        course = oracle.as_lists(COURSE)
        for function, handed_in in QUESTIONS:
            function(*handed_in(course))
        course[0][3][2][3].append(40)
        course[0][3][0][3][0] = 20
        course[2][3].append([1, 4, 4, [1]])
        changed = oracle.as_tuples(course)
        for function, handed_in in QUESTIONS:
            with self.subTest(function=function.__name__):
                self.assertEqual(function(*handed_in(course)), function(*handed_in(changed)))
        self.assertEqual(grade(course), oracle.pair(oracle.grade_of(changed)))
        self.assertEqual(tale(course), oracle.tale_of(changed))

    def test_the_same_is_asked_twice(self):
        for function, handed_in in QUESTIONS:
            with self.subTest(function=function.__name__):
                self.assertEqual(function(*handed_in(COURSE)), function(*handed_in(COURSE)))


class BoundsTest(unittest.TestCase):
    """Numbers and counts at the bounds of promises 3 and 4, all at once."""

    def course(self, tries):
        task = (1000, 10 ** 6, 10 ** 6, tries)
        return [(1000, 3, 1000, (task,) * 8, (1000,) * 12)] * 6

    def test_all_at_their_most(self):
        course = self.course((10 ** 6,) * 12)
        self.assertIs(checked(course), True)
        self.assertEqual(grade(course), (1, 1))
        self.assertEqual(tale(course), [
            ((1, 1), (0, 1, 2), [("left out", 10 ** 6, 0)] * 3 + [("kept", 10 ** 6, 0)] * 5),
        ] * 6)
        self.assertEqual(least_share(course, (1, 1)), 0)

    def test_all_at_their_least(self):
        course = [(1, 0, 0, ((1, 1, 0, (0,)),), (0,))]
        self.assertIs(checked(course), True)
        self.assertEqual(grade(course), (0, 1))
        self.assertEqual(tale(course), [((0, 1), (), [("kept", 0, 0)])])
        self.assertEqual(least_points(course, 0, 0, (0, 1)), 0)
        self.assertIs(least_points(course, 0, 0, (1, 1)), None)

    def test_all_open(self):
        course = self.course(())
        self.assertIs(grade(course), None)
        self.assertEqual(tale(course), [(None, (), [("open", None, None)] * 8)] * 6)
        self.assertEqual(least_share(course, (0, 1)), 0)
        # One part alone has a share then; the extras bring 1.
        self.assertEqual(least_points(course, 5, 7, (1, 1)), 0)


if __name__ == "__main__":
    unittest.main()
