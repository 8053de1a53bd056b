"""Promises 8, 9 and 10: the tasks left out, the mean of the others, and a part's share."""

import itertools
import random
import unittest

from gradewish.checks import checked
from gradewish.parts import left_out, mean, part_share
from tests import oracle


def task(points, weight=1, most=10):
    """A task of one try, open for None."""
    return (weight, most, most, () if points is None else (points,))


def part(*tasks, worst=0, top=0, extras=()):
    return (1, worst, top, tasks, extras)


class PartCase(unittest.TestCase):
    def assert_left_out(self, one, wanted):
        """The very tuple, whether the part is made of tuples or of lists."""
        self.assertIs(checked([one]), True)
        for form in (oracle.as_tuples(one), oracle.as_lists(one)):
            found = left_out(form)
            self.assertIs(type(found), tuple)
            self.assertEqual(found, wanted)

    def assert_share(self, one, wanted):
        self.assertIs(checked([one]), True)
        for form in (oracle.as_tuples(one), oracle.as_lists(one)):
            found = part_share(form)
            self.assertEqual(found, wanted)
            self.assertIs(type(found), type(wanted))


class LeftOutTest(PartCase):
    def test_none_where_worst_is_0(self):
        self.assert_left_out(part(task(0), task(5), task(10)), ())

    def test_the_least_share_of_alike_weights(self):
        self.assert_left_out(part(task(7), task(3), task(9), worst=1), (1,))
        self.assert_left_out(part(task(7), task(3), task(9), task(4), worst=2), (1, 3))
        self.assert_left_out(part(task(7), task(3), task(9), task(4), task(1), worst=3), (1, 3, 4))

    def test_shares_count_and_not_points(self):
        self.assert_left_out(part(task(9, most=100), task(3, most=4), worst=1), (0,))

    def test_marks_count_and_not_last_tries(self):
        one = part((1, 10, 10, (9, 0)), (1, 10, 4, (2, 10)), task(5), worst=1)
        self.assert_left_out(one, (1,))

    def test_one_task_is_kept_at_least(self):
        for worst in (1, 2, 3):
            self.assert_left_out(part(task(4), worst=worst), ())
        for worst in (1, 2, 3):
            self.assert_left_out(part(task(4), task(3), worst=worst), (1,))
            self.assert_left_out(part(task(3), task(4), worst=worst), (0,))
        self.assert_left_out(part(task(3), task(8), task(4), worst=2), (0, 2))
        self.assert_left_out(part(task(3), task(8), task(4), worst=3), (0, 2))

    def test_the_one_kept_is_the_one_with_the_greatest_share_whatever_its_weight(self):
        one = part(task(9, weight=1000), task(10, weight=1), task(8, weight=1000), worst=3)
        self.assert_left_out(one, (0, 2))

    def test_no_tasks(self):
        for worst in range(4):
            self.assert_left_out(part(worst=worst), ())
            self.assert_left_out(part(worst=worst, top=100, extras=(50,)), ())

    def test_open_tasks_alone(self):
        for worst in range(4):
            self.assert_left_out(part(task(None), worst=worst), ())
            self.assert_left_out(part(task(None), task(None), task(None), worst=worst), ())

    def test_open_tasks_are_neither_left_out_nor_counted(self):
        self.assert_left_out(part(task(None), task(6), task(None), task(2), worst=1), (3,))
        self.assert_left_out(part(task(None), task(2), task(None), task(6), task(7), worst=1), (1,))
        self.assert_left_out(part(task(None), task(2), task(None), worst=1), ())
        self.assert_left_out(part(task(None), task(2), task(None), task(1), worst=3), (3,))

    def test_a_try_with_0_points_is_not_open(self):
        self.assert_left_out(part(task(6), task(0), task(None), worst=1), (1,))

    def test_a_heavy_task_with_a_middling_mark_is_worse_to_keep_than_a_light_poor_one(self):
        light, heavy, good = task(0), task(5, weight=10), task(10, weight=10)
        self.assert_left_out(part(light, heavy, good, worst=1), (1,))
        self.assert_left_out(part(good, heavy, light, worst=1), (1,))
        self.assert_left_out(part(light, heavy, good, worst=2), (0, 1))

    def test_the_best_one_to_leave_out_need_not_be_among_the_best_two(self):
        tasks = [task(1, weight=3), task(2, weight=10), task(0, weight=2), task(10)]
        self.assert_left_out(part(*tasks, worst=1), (2,))
        self.assert_left_out(part(*tasks, worst=2), (0, 1))
        tasks = [task(5, weight=10), task(10, weight=5), task(0, weight=3), task(10, weight=5), task(5, weight=10)]
        self.assert_left_out(part(*tasks, worst=1), (2,))
        self.assert_left_out(part(*tasks, worst=2), (0, 4))


class SeveralWaysTest(PartCase):
    def test_all_tasks_alike(self):
        for worst in range(4):
            self.assert_left_out(part(*[task(6)] * 8, worst=worst), tuple(range(worst)))

    def test_all_shares_alike_whatever_the_weights(self):
        tasks = [task(5, weight) for weight in (4, 1, 3, 2)]
        self.assert_left_out(part(*tasks, worst=2), (0, 1))
        self.assert_left_out(part(*reversed(tasks), worst=2), (0, 1))

    def test_the_first_of_two_that_are_alike(self):
        self.assert_left_out(part(task(9), task(2), task(8), task(2), worst=1), (1,))

    def test_of_different_tasks_the_first_one(self):
        # Without the first (5 / 10 * 2 + 1 over 3) or the second one (1 over 2) the mean is the same.
        poor, middling, good = task(0, most=4), task(1, weight=2, most=4), task(4, most=4)
        one = part(poor, middling, good, worst=1)
        self.assertEqual(mean(one, [1, 2]), mean(one, [0, 2]))
        self.assert_left_out(one, (0,))
        self.assert_left_out(part(middling, poor, good, worst=1), (0,))
        self.assert_left_out(part(good, middling, poor, worst=1), (1,))
        self.assert_left_out(part(good, poor, middling, worst=1), (1,))

    def test_the_numbers_are_compared_one_by_one(self):
        one = part(task(2), task(9), task(0), task(9), task(2), worst=2)
        self.assertEqual(len([way for way in oracle.ways(one).values() if way == oracle.share_of(one)]), 2)
        self.assert_left_out(one, (0, 2))
        one = part(task(0), task(2), task(2), task(9), task(2), worst=3)
        self.assert_left_out(one, (0, 1, 2))

    def test_open_tasks_ahead_of_those_alike(self):
        self.assert_left_out(part(task(None), task(3), task(None), task(3), task(3), worst=2), (1, 3))


class AllWaysTest(PartCase):
    def test_all_parts_of_up_to_four_small_tasks(self):
        tasks = [task(None), task(0, most=2), task(1, most=2), task(1, 2, 2), task(2, most=2)]
        for many in range(5):
            for chosen in itertools.product(tasks, repeat=many):
                for worst in range(4):
                    one = part(*chosen, worst=worst)
                    self.assert_left_out(one, oracle.left_out_of(one))
                    self.assert_share(one, oracle.pair(oracle.share_of(one)))

    def test_parts_of_up_to_eight_tasks(self):
        chance = random.Random(1)
        several = 0
        for _ in range(600):
            one = oracle.some_part(chance, most_tasks=8)
            self.assert_left_out(one, oracle.left_out_of(one))
            self.assert_share(one, oracle.pair(oracle.share_of(one)))
            means = list(oracle.ways(one).values())
            several += means.count(max(means, default=None)) > 1
        self.assertGreater(several, 20)

    def test_parts_with_numbers_at_their_bounds(self):
        for part_at in oracle.full_course(7):
            self.assert_left_out(part_at, oracle.left_out_of(part_at))
            self.assert_share(part_at, oracle.pair(oracle.share_of(part_at)))

    def test_large_means_that_are_close(self):
        most = 10 ** 6
        tasks = [(1000, most - number % 2, 0, (most - 1 - number % 2,)) for number in range(8)]
        one = part(*tasks, worst=3)
        # 999999 of 1000000 is a little more than 999998 of 999999.
        self.assert_left_out(one, (1, 3, 5))
        self.assert_share(one, oracle.pair(oracle.share_of(one)))


class MeanTest(unittest.TestCase):
    def assert_mean(self, one, numbers, wanted):
        for form in (oracle.as_tuples(one), oracle.as_lists(one)):
            self.assertEqual(mean(form, tuple(numbers)), wanted)
            self.assertEqual(mean(form, list(numbers)), wanted)

    def test_of_one_task_is_its_share(self):
        one = part(task(5, weight=7), task(8), task(0), task(10))
        self.assert_mean(one, [0], (1, 2))
        self.assert_mean(one, [1], (4, 5))
        self.assert_mean(one, [2], (0, 1))
        self.assert_mean(one, [3], (1, 1))

    def test_of_alike_weights(self):
        one = part(task(5), task(8), task(None), task(1))
        self.assert_mean(one, [0, 1], (13, 20))
        self.assert_mean(one, [0, 1, 3], (7, 15))

    def test_each_as_often_as_its_weight(self):
        one = part(task(5, weight=3), task(10, weight=2), task(0, weight=1))
        self.assert_mean(one, [0, 1], (7, 10))
        self.assert_mean(one, [0, 1, 2], (7, 12))
        self.assert_mean(one, [0, 2], (3, 8))

    def test_points_are_over_the_most_of_their_own_task(self):
        self.assert_mean(part(task(3, most=4), task(3, most=6)), [0, 1], (5, 8))

    def test_marks_count(self):
        self.assert_mean(part((1, 10, 4, (2, 10)), (1, 10, 4, (6, 10))), [0, 1], (1, 2))

    def test_whatever_the_order_of_the_numbers(self):
        one = part(task(5, weight=3), task(9, weight=2), task(1, weight=7))
        for numbers in itertools.permutations(range(3)):
            self.assert_mean(one, numbers, (1, 3))

    def test_neither_worst_nor_extras_count(self):
        self.assert_mean(part(task(4), task(8), worst=1, top=1000, extras=(500,)), [0, 1], (3, 5))

    def test_by_value(self):
        for one in oracle.full_course(3):
            for numbers in ([0], [7, 1], [2, 3, 5], range(8)):
                self.assert_mean(one, numbers, oracle.pair(oracle.mean_of(one, numbers)))


class PartShareTest(PartCase):
    def test_the_mean_of_those_kept(self):
        self.assert_share(part(task(4), task(8)), (3, 5))
        self.assert_share(part(task(4), task(8), worst=1), (4, 5))
        self.assert_share(part(task(4), task(None), task(6)), (1, 2))

    def test_extras_are_thousandths(self):
        self.assert_share(part(task(5), top=1000, extras=(1,)), (501, 1000))
        self.assert_share(part(task(5), top=1000, extras=(10, 25, 15)), (11, 20))
        self.assert_share(part(task(5), top=1000, extras=(0, 0)), (1, 2))
        self.assert_share(part(task(5), top=1000), (1, 2))

    def test_extras_below_at_and_above_top(self):
        self.assert_share(part(task(5), top=100, extras=(50, 49)), (599, 1000))
        self.assert_share(part(task(5), top=100, extras=(50, 50)), (3, 5))
        self.assert_share(part(task(5), top=100, extras=(50, 51)), (3, 5))
        self.assert_share(part(task(5), top=100, extras=(1000,) * 12), (3, 5))

    def test_top_holds_for_the_sum_and_not_for_each_extra(self):
        self.assert_share(part(task(5), top=100, extras=(90, 90)), (3, 5))
        self.assert_share(part(task(5), top=100, extras=(200, 0)), (3, 5))

    def test_top_0(self):
        self.assert_share(part(task(5), top=0, extras=(300,)), (1, 2))

    def test_no_more_than_1(self):
        self.assert_share(part(task(9), top=1000, extras=(99,)), (999, 1000))
        self.assert_share(part(task(9), top=1000, extras=(100,)), (1, 1))
        self.assert_share(part(task(9), top=1000, extras=(101,)), (1, 1))
        self.assert_share(part(task(10), top=1000, extras=(1000,) * 12), (1, 1))
        self.assert_share(part(task(10)), (1, 1))

    def test_least(self):
        self.assert_share(part(task(0)), (0, 1))
        self.assert_share(part(task(0), top=1000, extras=(1000,)), (1, 1))

    def test_open_tasks_alone_have_none_whatever_the_extras(self):
        self.assert_share(part(task(None), top=1000, extras=(300,)), None)
        self.assert_share(part(task(None), task(None), worst=2, top=1000, extras=(300,)), None)

    def test_no_tasks_have_none_whatever_the_extras(self):
        self.assert_share(part(), None)
        self.assert_share(part(worst=3, top=1000, extras=(300,)), None)

    def test_the_weight_of_the_part_is_nothing_to_it(self):
        self.assertEqual(part_share((1000, 0, 0, (task(5),), ())), (1, 2))


if __name__ == "__main__":
    unittest.main()
