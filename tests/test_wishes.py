"""Promises 14, 15, 16 and 17: wishes, the least points, the least share, and what is refused."""

import copy
import itertools
import unittest
from fractions import Fraction

from gradewish.checks import checked
from gradewish.errors import BadPlace, BadWish, GradeError, TooMany
from gradewish.grades import grade
from gradewish.wishes import least_points, least_share, reached, tried
from tests import oracle

BIG = 10 ** 6
HALF = (1, 10, 10, (5,))
OPEN = (1, 10, 10, ())
TWELVE = (1, 10, 10, (5,) * 12)


def part(*tasks, weight=1, worst=0, top=0, extras=()):
    return (weight, worst, top, tasks, extras)


def some_wishes(course):
    """Wishes about the grades that the course can have, and at the ends."""
    wishes = [Fraction(0), Fraction(1), Fraction(1001, 1000), Fraction(1, 2), Fraction(3, 4)]
    value = oracle.grade_of(course)
    if value is not None:
        wishes += [value, value + Fraction(1, 100), value + Fraction(1, 10 ** 6)]
    return [oracle.pair(wish) for wish in wishes]


class TriedTest(unittest.TestCase):
    def assert_tried(self, course, at, number, points, wanted):
        for form in oracle.forms(course):
            before = copy.deepcopy(form)
            found = tried(form, at, number, points)
            self.assertIs(type(found), list)
            self.assertEqual(found, wanted)
            self.assertEqual(oracle.as_tuples(found), tuple(found))
            self.assertIsNot(found, form)
            self.assertEqual(form, before)

    def test_one_try_more_at_the_end(self):
        self.assert_tried([part((1, 10, 6, (5, 2)))], 0, 0, 3, [part((1, 10, 6, (5, 2, 3)))])

    def test_the_first_try(self):
        self.assert_tried([part(OPEN)], 0, 0, 7, [part((1, 10, 10, (7,)))])

    def test_points_0(self):
        self.assert_tried([part(OPEN)], 0, 0, 0, [part((1, 10, 10, (0,)))])

    def test_the_points_stand_as_they_are_above_the_cap(self):
        self.assert_tried([part((1, 10, 2, (5,)))], 0, 0, 9, [part((1, 10, 2, (5, 9)))])

    def test_all_else_stays(self):
        one = part(HALF, OPEN, TWELVE, weight=7, worst=2, top=50, extras=(1, 2))
        other = part(OPEN, (3, 8, 1, (2,)), weight=2, worst=1, top=9, extras=(4,))
        empty = part(weight=3, extras=(5,))
        changed = part(OPEN, (3, 8, 1, (2, 6)), weight=2, worst=1, top=9, extras=(4,))
        self.assert_tried([one, other, empty], 1, 1, 6, [one, changed, empty])

    def test_each_place(self):
        for at, number in itertools.product(range(3), range(3)):
            course = [part(HALF, HALF, HALF) for _ in range(3)]
            wanted = oracle.with_try(course, at, number, 4)
            self.assert_tried(course, at, number, 4, wanted)
            self.assertEqual(wanted[at][3][number][3], (5, 4))

    def test_it_refuses_nothing(self):
        self.assert_tried([part(TWELVE)], 0, 0, 5, [part((1, 10, 10, (5,) * 13))])
        self.assert_tried([part(HALF)], 0, 0, 11, [part((1, 10, 10, (5, 11)))])
        self.assert_tried([part(HALF)], 0, 0, -1, [part((1, 10, 10, (5, -1)))])

    def test_a_course_tried_may_be_tried_again(self):
        once = tried([part(OPEN, HALF)], 0, 0, 3)
        twice = tried(once, 0, 0, 9)
        self.assertEqual(once, [part((1, 10, 10, (3,)), HALF)])
        self.assertEqual(twice, [part((1, 10, 10, (3, 9)), HALF)])
        self.assertIs(checked(twice), True)

    def test_a_course_that_is_changed_behind_changes_no_course_tried(self):
        course = oracle.as_lists([part(HALF, top=5, extras=(3,)), part(OPEN, HALF)])
        found = tried(course, 1, 0, 4)
        before = copy.deepcopy(found)
        course[0][3][0][3].append(9)
        course[0][4].append(9)
        course[1][3][1][0] = 900
        course[1][3].pop()
        course.pop(0)
        self.assertEqual(found, before)

    def test_the_list_is_the_askers_own(self):
        course = [part(HALF), part(OPEN)]
        found = tried(course, 0, 0, 6)
        found.clear()
        self.assertEqual(course, [part(HALF), part(OPEN)])
        self.assertEqual(tried(course, 0, 0, 6), [part((1, 10, 10, (5, 6))), part(OPEN)])


class ReachedTest(unittest.TestCase):
    def assert_reached(self, course, wish, wanted):
        for form in oracle.forms(course):
            self.assertIs(reached(form, wish), wanted)

    def test_grade_above_at_and_below_the_wish(self):
        self.assert_reached([part(HALF)], (49, 100), True)
        self.assert_reached([part(HALF)], (1, 2), True)
        self.assert_reached([part(HALF)], (51, 100), False)

    def test_no_grade_reaches_no_wish(self):
        for course in ([], [part()], [part(OPEN)], [part(OPEN, top=9, extras=(9,))]):
            self.assert_reached(course, (0, 1), False)
            self.assert_reached(course, (1, 2), False)

    def test_grade_0(self):
        self.assert_reached([part((1, 10, 10, (0,)))], (0, 1), True)
        self.assert_reached([part((1, 10, 10, (0,)))], (1, 10 ** 12), False)

    def test_grade_1(self):
        self.assert_reached([part((1, 10, 10, (10,)))], (1, 1), True)
        self.assert_reached([part((1, 10, 10, (10,)))], (10 ** 12 + 1, 10 ** 12), False)
        self.assert_reached([part((1, 10, 10, (10,)))], (2, 1), False)

    def test_close_to_the_wish(self):
        course = [part((1, BIG, 0, (BIG - 1,)))]
        self.assert_reached(course, (BIG - 1, BIG), True)
        self.assert_reached(course, (BIG, BIG + 1), False)
        self.assert_reached(course, (BIG - 2, BIG - 1), True)

    def test_by_value(self):
        for course in oracle.some_courses(200, seed=21):
            for wish in some_wishes(course):
                self.assert_reached(course, wish, oracle.reaches(course, wish))


class LeastPointsTest(unittest.TestCase):
    def assert_least(self, course, at, number, wish, wanted):
        """What the document says, and that one less is too little."""
        for form in oracle.forms(course):
            found = least_points(form, at, number, wish)
            self.assertEqual(found, wanted)
            self.assertIs(type(found), type(wanted))
        most = course[at][3][number][1]
        if wanted is None:
            self.assertIs(reached(tried(course, at, number, most), wish), False)
        else:
            self.assertIs(reached(tried(course, at, number, wanted), wish), True)
            self.assertLessEqual(wanted, most)
        if wanted:
            self.assertIs(reached(tried(course, at, number, wanted - 1), wish), False)

    def test_of_an_open_task(self):
        self.assert_least([part(HALF, OPEN)], 0, 1, (3, 5), 7)
        self.assert_least([part(OPEN)], 0, 0, (2, 3), 7)

    def test_of_a_task_with_tries(self):
        self.assert_least([part(HALF, HALF)], 0, 0, (3, 5), 7)

    def test_0_points_do(self):
        self.assert_least([part(HALF)], 0, 0, (1, 2), 0)
        self.assert_least([part(HALF)], 0, 0, (0, 1), 0)
        self.assert_least([part(OPEN)], 0, 0, (0, 1), 0)

    def test_1_point_does(self):
        self.assert_least([part(OPEN)], 0, 0, (1, 10), 1)
        self.assert_least([part(OPEN)], 0, 0, (1, 1000), 1)

    def test_the_most_does(self):
        self.assert_least([part(OPEN)], 0, 0, (1, 1), 10)
        self.assert_least([part(HALF)], 0, 0, (1, 1), 10)
        self.assert_least([part(HALF, OPEN)], 0, 1, (3, 4), 10)
        self.assert_least([part(OPEN)], 0, 0, (91, 100), 10)
        self.assert_least([part((1, 1, 1, ()))], 0, 0, (1, 2), 1)

    def test_none_does(self):
        self.assert_least([part(HALF, OPEN)], 0, 1, (4, 5), None)
        self.assert_least([part(OPEN)], 0, 0, (11, 10), None)
        self.assert_least([part(OPEN)], 0, 0, (2, 1), None)

    def test_the_cap_holds_a_later_try_down_but_not_the_first_one(self):
        self.assert_least([part((1, 10, 6, (5,)))], 0, 0, (3, 5), 6)
        self.assert_least([part((1, 10, 6, (5,)))], 0, 0, (7, 10), None)
        self.assert_least([part((1, 10, 6, ()))], 0, 0, (7, 10), 7)
        self.assert_least([part((1, 10, 0, (5,)))], 0, 0, (3, 5), None)
        self.assert_least([part((1, 10, 0, (5,)))], 0, 0, (1, 2), 0)

    def test_the_task_may_take_the_place_of_another_one_that_is_then_left_out(self):
        course = [part((1, 10, 10, (8,)), (1, 10, 10, (2,)), (1, 10, 10, (6,)), worst=1)]
        self.assert_least(course, 0, 1, (7, 10), 0)
        self.assert_least(course, 0, 1, (4, 5), 8)
        self.assert_least(course, 0, 1, (9, 10), 10)

    def test_a_wish_that_is_reached_may_need_points_at_an_open_task(self):
        self.assert_least([part(HALF, OPEN)], 0, 1, (1, 2), 5)
        self.assert_least([part(HALF), part(OPEN)], 1, 0, (1, 2), 5)

    def test_extras_and_other_parts_count(self):
        course = [part(OPEN, top=100, extras=(200,)), part(HALF, weight=3)]
        self.assert_least(course, 0, 0, (1, 2), 4)
        self.assert_least(course, 0, 0, (5, 8), 9)
        self.assert_least(course, 0, 0, (63, 100), None)
        self.assert_least(course, 1, 0, (9, 10), 9)

    def test_other_open_tasks_stay_open(self):
        self.assert_least([part(OPEN, OPEN), part(OPEN)], 0, 1, (1, 2), 5)

    def test_a_task_with_11_tries(self):
        self.assert_least([part((1, 10, 10, (5,) * 11))], 0, 0, (3, 5), 6)

    def test_the_first_and_the_last_place(self):
        course = [part(HALF, HALF), part(HALF, OPEN, HALF)]
        self.assert_least(course, 0, 0, (11, 20), 7)
        self.assert_least(course, 1, 2, (11, 20), 7)

    def test_large_most(self):
        one = (1, BIG, BIG, ())
        for points in (0, 1, 2, 499999, 500000, 500001, BIG - 1, BIG):
            self.assert_least([part(one)], 0, 0, oracle.pair(Fraction(points, BIG)), points)
        self.assert_least([part(one)], 0, 0, (1, 3), 333334)
        self.assert_least([part(one)], 0, 0, (2, 3), 666667)
        self.assert_least([part(one)], 0, 0, (BIG + 1, BIG), None)

    def test_each_number_of_points(self):
        for most in range(1, 18):
            for points in range(most + 1):
                wish = oracle.pair(Fraction(points, most))
                self.assert_least([part((1, most, 0, ()))], 0, 0, wish, points)

    def test_against_each_number_of_points(self):
        told = []
        for course in oracle.some_courses(120, seed=22):
            for at, one in enumerate(course):
                for number in range(len(one[3])):
                    for wish in some_wishes(course):
                        wanted = oracle.least_points_of(course, at, number, wish)
                        self.assert_least(course, at, number, wish, wanted)
                        told.append(wanted)
        self.assertGreater(told.count(None), 100)
        self.assertGreater(sum(wanted is not None and 0 < wanted < 10 for wanted in told), 100)

    def test_courses_with_numbers_at_their_bounds(self):
        course = [(1000, 3, 1000, ((1000, BIG, BIG, (1,)),) * 8, (1,)) for _ in range(6)]
        target = 777777
        for at, number in ((0, 0), (5, 7)):
            wish = grade(tried(course, at, number, target))
            self.assert_least(course, at, number, wish, target)


class LeastShareTest(unittest.TestCase):
    def assert_least(self, course, wish, wanted):
        for form in oracle.forms(course):
            found = least_share(form, wish)
            self.assertEqual(found, wanted)
            self.assertIs(type(found), type(wanted))
        if wanted is None:
            self.assertFalse(oracle.reaches(oracle.all_tried(course, 1000), wish))
        else:
            self.assertTrue(oracle.reaches(oracle.all_tried(course, wanted), wish))
        if wanted:
            self.assertFalse(oracle.reaches(oracle.all_tried(course, wanted - 1), wish))

    def test_of_one_open_task(self):
        self.assert_least([part((1, 1000, 0, ()))], (1, 2), 500)
        self.assert_least([part((1, 1000, 0, ()))], (1, 3), 334)
        self.assert_least([part(HALF, (1, 1000, 0, ()))], (3, 5), 700)

    def test_points_are_rounded_up(self):
        self.assert_least([part(OPEN)], (1, 2), 401)
        self.assert_least([part(OPEN)], (1, 10), 1)
        self.assert_least([part(OPEN)], (1, 1), 901)
        self.assert_least([part((1, 7, 0, ()))], (2, 7), 143)
        self.assert_least([part((1, 1, 0, ()))], (1, 1), 1)

    def test_points_that_come_out_whole_are_not_rounded(self):
        self.assert_least([part(OPEN)], (11, 20), 501)
        self.assert_least([part((1, 2000, 0, ()))], (1001, 2000), 501)
        self.assert_least([part((1, 2000, 0, ()))], (1, 2), 500)

    def test_0_does(self):
        self.assert_least([part(OPEN)], (0, 1), 0)
        self.assert_least([part(HALF, OPEN)], (1, 4), 0)

    def test_1000_does(self):
        self.assert_least([part((1, BIG, 0, ()))], (1, 1), 1000)
        self.assert_least([part((1, BIG, 0, ()))], (999001, BIG), 1000)
        self.assert_least([part((1, BIG, 0, ()))], (999, 1000), 999)

    def test_none_does(self):
        self.assert_least([part(OPEN)], (11, 10), None)
        self.assert_least([part(HALF, OPEN)], (4, 5), None)

    def test_each_open_task_is_tried_in_all_parts(self):
        course = [part(OPEN, HALF, (1, 1000, 0, ())), part((1, 1000, 0, ()), (1, 7, 7, ()))]
        for wish in ((1, 2), (3, 5), (4, 5), (9, 10), (11, 12), (1, 1)):
            self.assert_least(course, wish, oracle.least_share_of(course, wish))
        self.assert_least([part(HALF), part((1, 1000, 0, ()), (1, 1000, 0, ()))], (3, 5), 700)
        self.assert_least([part(OPEN, OPEN), part(OPEN)], (1, 1), 901)

    def test_tasks_with_tries_are_not_tried(self):
        self.assert_least([part((1, 1000, 1000, (0,)), (1, 1000, 0, ()))], (1, 2), 1000)
        self.assert_least([part((1, 10, 10, (0,)), (1, 1000, 0, ()))], (1, 4), 500)

    def test_a_task_with_12_tries_is_no_hindrance(self):
        self.assert_least([part(TWELVE, (1, 1000, 0, ()))], (3, 5), 700)

    def test_without_open_tasks(self):
        self.assert_least([part(HALF)], (1, 2), 0)
        self.assert_least([part(HALF)], (0, 1), 0)
        self.assert_least([part(HALF)], (501, 1000), None)

    def test_without_tasks(self):
        for course in ([], [part()], [part(top=9, extras=(9,))]):
            self.assert_least(course, (0, 1), None)
            self.assert_least(course, (1, 2), None)

    def test_each_thousandth(self):
        course = [part((1, 1000, 0, ()))]
        for thousandths in range(1001):
            self.assertEqual(least_share(course, oracle.pair(Fraction(thousandths, 1000))), thousandths)

    def test_against_each_thousandth(self):
        told = []
        for course in oracle.some_courses(60, seed=23, most_parts=2, most_tasks=3):
            for wish in some_wishes(course)[1:6]:
                wanted = oracle.least_share_of(course, wish)
                self.assert_least(course, wish, wanted)
                told.append(wanted)
        self.assertGreater(told.count(None), 20)
        self.assertGreater(sum(wanted is not None and 0 < wanted < 1000 for wanted in told), 20)

    def test_courses_with_numbers_at_their_bounds(self):
        course = [(1000, 3, 1000, ((1000, BIG, BIG, ()),) * 8, ()) for _ in range(6)]
        self.assert_least(course, (777, 1000), 777)
        self.assert_least(course, (777001, BIG), 778)

    def test_it_changes_nothing(self):
        course = oracle.as_lists([part(OPEN, HALF, worst=1, extras=(3,))])
        before = copy.deepcopy(course)
        least_share(course, (3, 4))
        self.assertEqual(course, before)


# Wishes whose bottom is not from 1 on, whose top is below 0, or that are not lowered.
BAD_WISHES = [
    (1, 0), (0, 0), (1, -2), (-1, -2), (0, -1), (-1, 2), (-1, 1), (-2, 4),
    (2, 4), (5, 5), (0, 2), (0, 10 ** 6), (3 * 10 ** 30, 7 * 10 ** 30), (10, 4), (True, 1), (1, True), (False, 1),
]


class RefusalsTest(unittest.TestCase):
    def assert_refused(self, refusal, function, course, *others):
        for form in oracle.forms(course):
            before = copy.deepcopy(form)
            with self.assertRaises(GradeError) as caught:
                function(form, *others)
            self.assertIs(type(caught.exception), refusal, others)
            self.assertEqual(form, before)

    def course(self):
        return [part(HALF, OPEN), part(), part(TWELVE)]

    def test_no_part_of_that_number(self):
        for at in (3, 4, 100, -1, -3, -4, 10 ** 20):
            self.assert_refused(BadPlace, least_points, self.course(), at, 0, (1, 2))
        self.assert_refused(BadPlace, least_points, [], 0, 0, (1, 2))

    def test_no_task_of_that_number(self):
        for number in (2, 3, 100, -1, -2, -3, 10 ** 20):
            self.assert_refused(BadPlace, least_points, self.course(), 0, number, (1, 2))
        self.assert_refused(BadPlace, least_points, self.course(), 1, 0, (1, 2))
        self.assert_refused(BadPlace, least_points, self.course(), 2, 1, (1, 2))

    def test_truths_are_no_numbers_of_a_place(self):
        course = [part(HALF, HALF), part(HALF, HALF)]
        for truth in (True, False):
            self.assert_refused(BadPlace, least_points, course, truth, 0, (1, 2))
            self.assert_refused(BadPlace, least_points, course, 0, truth, (1, 2))

    def test_twelve_tries_already(self):
        self.assert_refused(TooMany, least_points, self.course(), 2, 0, (1, 2))
        self.assertEqual(least_points([part((1, 10, 10, (5,) * 11))], 0, 0, (1, 2)), 0)

    def test_twelve_tries_are_refused_whether_the_wish_is_reached_or_not(self):
        for wish in ((0, 1), (1, 2), (1, 1), (3, 1)):
            self.assert_refused(TooMany, least_points, [part(TWELVE)], 0, 0, wish)

    def test_bad_wishes(self):
        for wish in BAD_WISHES:
            with self.subTest(wish=wish):
                self.assert_refused(BadWish, least_points, self.course(), 0, 0, wish)
                self.assert_refused(BadWish, least_points, self.course(), 0, 1, wish)
                self.assert_refused(BadWish, least_share, self.course(), wish)

    def test_bad_wishes_are_refused_where_nothing_could_be_reached(self):
        for wish in BAD_WISHES:
            self.assert_refused(BadWish, least_share, [], wish)

    def test_wishes_at_the_edges_are_good(self):
        for wish in ((0, 1), (1, 1), (2, 1), (10 ** 30, 10 ** 30 - 1), (1, 10 ** 30)):
            with self.subTest(wish=wish):
                least_points(self.course(), 0, 0, wish)
                least_share(self.course(), wish)

    def test_the_place_comes_before_the_wish(self):
        for at, number in ((3, 0), (-1, 0), (0, 2), (0, -1), (1, 0)):
            self.assert_refused(BadPlace, least_points, self.course(), at, number, (2, 4))

    def test_the_tries_come_before_the_wish(self):
        for wish in BAD_WISHES:
            self.assert_refused(TooMany, least_points, self.course(), 2, 0, wish)

    def test_a_place_that_is_none_comes_before_the_tries_of_another_one(self):
        course = [part(TWELVE)]
        for at, number in ((0, 1), (0, -1), (1, 0), (-1, 0), (-1, -1)):
            self.assert_refused(BadPlace, least_points, course, at, number, (1, 2))

    def test_least_share_looks_at_no_number_of_tries(self):
        self.assertEqual(least_share([part(TWELVE)], (1, 2)), 0)


if __name__ == "__main__":
    unittest.main()
