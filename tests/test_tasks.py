"""Promises 6 and 7: marks."""

import itertools
import unittest

from gradewish.checks import checked
from gradewish.shares import share
from gradewish.tasks import chosen, gives, mark


def task(*tries, cap=6, most=10):
    return (1, most, cap, tries)


class MarkCase(unittest.TestCase):
    def assert_told(self, one, given, points, number):
        """What the three functions tell of a task, and of the same task made of lists."""
        for form in (one, [*one[:3], list(one[3])]):
            found = gives(form)
            self.assertIs(type(found), list)
            self.assertEqual(found, given)
            self.assertEqual(mark(form), points)
            self.assertEqual(chosen(form), number)


class TriesTest(MarkCase):
    def test_no_tries(self):
        self.assert_told(task(), [], None, None)
        self.assertIs(mark(task()), None)
        self.assertIs(chosen(task()), None)

    def test_one_try(self):
        self.assert_told(task(4), [4], 4, 0)

    def test_the_first_one_gives_its_points_above_the_cap(self):
        self.assert_told(task(7), [7], 7, 0)
        self.assert_told(task(9, 8), [9, 6], 9, 0)
        self.assert_told(task(10, 10, 10), [10, 6, 6], 10, 0)

    def test_one_try_with_0_points_is_no_open_task(self):
        self.assert_told(task(0), [0], 0, 0)

    def test_a_later_one_above_the_cap_gives_the_cap(self):
        self.assert_told(task(2, 9), [2, 6], 6, 1)
        self.assert_told(task(2, 7), [2, 6], 6, 1)

    def test_a_later_one_at_the_cap(self):
        self.assert_told(task(2, 6), [2, 6], 6, 1)

    def test_a_later_one_below_the_cap(self):
        self.assert_told(task(2, 5), [2, 5], 5, 1)
        self.assert_told(task(4, 3), [4, 3], 4, 0)

    def test_each_later_one_is_held_down_not_only_the_second_or_the_last(self):
        self.assert_told(task(1, 8, 2, 9, 10), [1, 6, 2, 6, 6], 6, 1)

    def test_of_two_that_give_the_same_the_first_one_is_chosen(self):
        self.assert_told(task(5, 5), [5, 5], 5, 0)
        self.assert_told(task(1, 4, 4), [1, 4, 4], 4, 1)
        self.assert_told(task(6, 9), [6, 6], 6, 0)
        self.assert_told(task(1, 7, 9), [1, 6, 6], 6, 1)

    def test_a_try_with_more_points_that_gives_less_is_not_chosen(self):
        self.assert_told(task(7, 10), [7, 6], 7, 0)

    def test_cap_0(self):
        self.assert_told(task(3, 10, 5, cap=0), [3, 0, 0], 3, 0)
        self.assert_told(task(0, 10, cap=0), [0, 0], 0, 0)

    def test_cap_that_is_the_most(self):
        self.assert_told(task(3, 10, 9, cap=10), [3, 10, 9], 10, 1)

    def test_twelve_tries(self):
        tries = (0, 1, 2, 3, 4, 5, 4, 3, 6, 7, 8, 9)
        self.assert_told(task(*tries), [0, 1, 2, 3, 4, 5, 4, 3, 6, 6, 6, 6], 6, 8)
        self.assert_told(task(*tries, cap=10), list(tries), 9, 11)

    def test_large_points(self):
        one = (1000, 10 ** 6, 999999, (5, 10 ** 6))
        self.assert_told(one, [5, 999999], 999999, 1)

    def test_share_of_a_mark_is_its_points_over_the_most(self):
        one = task(3, 8, cap=6, most=15)
        self.assertEqual(share(mark(one), one[1]), (2, 5))


class OwnListTest(unittest.TestCase):
    def test_the_list_is_a_new_one_each_time(self):
        for one in (task(), task(4), task(4, 9), [1, 10, 6, [4, 9]]):
            first, second = gives(one), gives(one)
            self.assertEqual(first, second)
            self.assertIsNot(first, second)
            self.assertIsNot(first, one[3])
            first.append(100)
            self.assertEqual(gives(one), second)

    def test_changing_the_list_changes_no_task(self):
        one = [1, 10, 6, [4, 5]]
        gives(one)[0] = 9
        self.assertEqual(one, [1, 10, 6, [4, 5]])
        self.assertEqual(mark(one), 5)

    def test_a_task_that_is_changed_behind_changes_no_list(self):
        one = [1, 10, 6, [4, 5]]
        given = gives(one)
        one[3].append(10)
        one[2] = 0
        self.assertEqual(given, [4, 5])
        self.assertEqual(gives(one), [4, 0, 0])
        self.assertEqual(mark(one), 4)
        self.assertEqual(chosen(one), 0)

    def test_nothing_handed_in_is_changed(self):
        one = [3, 10, 6, [2, 9, 4]]
        gives(one)
        mark(one)
        chosen(one)
        self.assertEqual(one, [3, 10, 6, [2, 9, 4]])


class NeverLessTest(unittest.TestCase):
    MOST = 4

    def all_tasks(self, longest):
        for cap in range(self.MOST + 1):
            for many in range(longest + 1):
                for tries in itertools.product(range(self.MOST + 1), repeat=many):
                    yield task(*tries, cap=cap, most=self.MOST)

    def assert_not_less(self, more, one):
        self.assertGreaterEqual(mark(more), mark(one), (more, one))

    def test_one_more_try(self):
        for one in self.all_tasks(3):
            for points in range(self.MOST + 1):
                more = task(*one[3], points, cap=one[2], most=self.MOST)
                self.assertIs(checked([(1, 0, 0, (more,), ())]), True)
                if one[3]:
                    self.assert_not_less(more, one)
                else:
                    self.assertEqual(mark(more), points)

    def test_more_points_in_the_place_of_a_try(self):
        for one in self.all_tasks(3):
            tries = one[3]
            for at, points in enumerate(tries):
                for better in range(points + 1, self.MOST + 1):
                    changed = tries[:at] + (better,) + tries[at + 1:]
                    self.assert_not_less(task(*changed, cap=one[2], most=self.MOST), one)


if __name__ == "__main__":
    unittest.main()
