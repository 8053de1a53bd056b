"""Promise 2: shares."""

import unittest
from fractions import Fraction

from gradewish.shares import less, plus, share, times, weighted

BIG = 10 ** 12


def pair(value):
    """The share that a Fraction is: lowered, its bottom from 1 on."""
    return (value.numerator, value.denominator)


SOME = [share(top, bottom) for top in range(-7, 8) for bottom in range(1, 8)]
LARGE = [
    share(BIG, 1), share(-BIG, 1), share(1, BIG), share(-1, BIG),
    share(BIG + 1, BIG), share(BIG - 1, BIG), share(7 * BIG ** 3 + 1, 3 * BIG), share(0, BIG),
]


class ShareCase(unittest.TestCase):
    def assert_share(self, found, wanted):
        """The very tuple, with ints in it that are no truths."""
        self.assertIs(type(found), tuple)
        self.assertEqual(found, wanted)
        self.assertEqual([type(number) for number in found], [int, int])


class ShareTest(ShareCase):
    def test_is_lowered(self):
        self.assert_share(share(6, 4), (3, 2))
        self.assert_share(share(3, 9), (1, 3))
        self.assert_share(share(12, 4), (3, 1))

    def test_what_is_lowered_stays(self):
        self.assert_share(share(2, 3), (2, 3))
        self.assert_share(share(1, 1), (1, 1))
        self.assert_share(share(5, 1), (5, 1))

    def test_top_below_0_keeps_the_bottom_above_0(self):
        self.assert_share(share(-6, 4), (-3, 2))
        self.assert_share(share(-1, 3), (-1, 3))
        self.assert_share(share(-8, 4), (-2, 1))

    def test_0_is_0_over_1_whatever_the_bottom(self):
        for bottom in (1, 2, 3, 10, 1000, BIG, BIG ** 5):
            with self.subTest(bottom=bottom):
                self.assert_share(share(0, bottom), (0, 1))

    def test_large_numbers(self):
        self.assert_share(share(6 * BIG, 4 * BIG), (3, 2))
        self.assert_share(share(BIG, BIG), (1, 1))
        self.assert_share(share(BIG + 1, BIG), (BIG + 1, BIG))
        self.assert_share(share(-6 * (BIG + 1) ** 4, 4 * (BIG + 1) ** 3), (-3 * (BIG + 1), 2))
        self.assert_share(share(10 ** 30 + 2, 10 ** 30), (5 * 10 ** 29 + 1, 5 * 10 ** 29))

    def test_all_small_ones(self):
        for top in range(-30, 31):
            for bottom in range(1, 31):
                self.assert_share(share(top, bottom), pair(Fraction(top, bottom)))


class PlusTest(ShareCase):
    def test_of_different_bottoms(self):
        self.assert_share(plus((1, 2), (1, 3)), (5, 6))

    def test_the_sum_is_lowered(self):
        self.assert_share(plus((1, 6), (1, 3)), (1, 2))
        self.assert_share(plus((1, 2), (1, 2)), (1, 1))

    def test_with_0(self):
        self.assert_share(plus((2, 5), (0, 1)), (2, 5))
        self.assert_share(plus((0, 1), (0, 1)), (0, 1))

    def test_below_0(self):
        self.assert_share(plus((1, 3), (-1, 3)), (0, 1))
        self.assert_share(plus((1, 4), (-3, 4)), (-1, 2))

    def test_all_by_value(self):
        for one in SOME + LARGE:
            for other in SOME + LARGE:
                self.assert_share(plus(one, other), pair(Fraction(*one) + Fraction(*other)))


class TimesTest(ShareCase):
    def test_takes_a_share_times_a_number_over_another_one(self):
        self.assert_share(times((1, 2), 3, 5), (3, 10))
        self.assert_share(times((2, 3), 1, 1), (2, 3))

    def test_is_lowered(self):
        self.assert_share(times((2, 3), 3, 4), (1, 2))
        self.assert_share(times((1, 2), 6, 1), (3, 1))

    def test_number_0(self):
        for one in SOME + LARGE:
            for over in (1, 2, BIG):
                self.assert_share(times(one, 0, over), (0, 1))

    def test_over_1(self):
        self.assert_share(times((-3, 4), 2, 1), (-3, 2))
        self.assert_share(times((BIG + 1, BIG), BIG, 1), (BIG + 1, 1))

    def test_all_by_value(self):
        numbers = [0, 1, 2, 3, 4, 6, 9, 1000, BIG, BIG + 1]
        for one in SOME + LARGE:
            for number in numbers:
                for over in numbers[1:]:
                    wanted = pair(Fraction(*one) * number / over)
                    self.assert_share(times(one, number, over), wanted)


class LessTest(unittest.TestCase):
    def test_less_and_not_less(self):
        self.assertIs(less((1, 3), (1, 2)), True)
        self.assertIs(less((1, 2), (1, 3)), False)

    def test_equal_shares_are_not_less(self):
        for one in SOME + LARGE:
            self.assertIs(less(one, one), False)

    def test_below_0(self):
        self.assertIs(less((-1, 2), (-1, 3)), True)
        self.assertIs(less((-1, 3), (-1, 2)), False)
        self.assertIs(less((-1, 3), (0, 1)), True)
        self.assertIs(less((0, 1), (-1, 3)), False)
        self.assertIs(less((-1, 3), (1, 3)), True)

    def test_large_numbers_that_are_close(self):
        self.assertIs(less((BIG, BIG + 1), (BIG + 1, BIG + 2)), True)
        self.assertIs(less((BIG + 1, BIG + 2), (BIG, BIG + 1)), False)

    def test_all_by_value(self):
        for one in SOME + LARGE:
            for other in SOME + LARGE:
                self.assertIs(less(one, other), Fraction(*one) < Fraction(*other))


class WeightedTest(ShareCase):
    def test_of_one_share(self):
        self.assert_share(weighted([(7, (2, 3))]), (2, 3))

    def test_each_as_often_as_its_weight(self):
        self.assert_share(weighted([(3, (1, 2)), (1, (1, 1))]), (5, 8))
        self.assert_share(weighted([(1, (1, 2)), (2, (0, 1)), (3, (1, 3))]), (1, 4))


if __name__ == "__main__":
    unittest.main()
