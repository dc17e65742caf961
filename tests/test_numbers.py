import unittest
from fractions import Fraction
from math import ceil, floor

from coastersafe.errors import BadNumber
from coastersafe.numbers import (
    added, common, divided_down, divided_up, hull, is_interval, root_down, root_up,
)

GREAT = 10 ** 59 + 123456789
SMALL_INTERVALS = [(low, high) for low in range(-3, 4) for high in range(low, 4)]


class DivisionTest(unittest.TestCase):
    def test_example_of_the_document(self):
        self.assertEqual(
            [divided_down(-7, 2), divided_up(-7, 2), root_down(24), root_up(26), common((1, 5), (4, 9))],
            [-4, -3, 4, 6, (4, 5)],
        )

    def test_small_numbers_of_both_signs(self):
        for number in range(-30, 31):
            for divisor in range(1, 12):
                exact = Fraction(number, divisor)
                self.assertEqual(divided_down(number, divisor), floor(exact), (number, divisor))
                self.assertEqual(divided_up(number, divisor), ceil(exact), (number, divisor))

    def test_divisor_1(self):
        for number in (-GREAT, -1, 0, 1, GREAT):
            self.assertEqual(divided_down(number, 1), number)
            self.assertEqual(divided_up(number, 1), number)

    def test_many_digits(self):
        for number in (GREAT, -GREAT, GREAT * GREAT, -GREAT * GREAT - 1, 3 * GREAT):
            for divisor in (2, 3, 7, 10 ** 20 + 1, GREAT):
                down = divided_down(number, divisor)
                up = divided_up(number, divisor)
                self.assertTrue(down * divisor <= number < (down + 1) * divisor)
                self.assertTrue((up - 1) * divisor < number <= up * divisor)

    def test_results_are_integers(self):
        for result in (divided_down(7, 2), divided_up(7, 2), root_down(7), root_up(7)):
            self.assertIs(type(result), int)

    def test_divisors_below_1(self):
        for divisor in (0, -1, -2, -GREAT):
            for number in (-5, 0, 5):
                self.assertRaises(BadNumber, divided_down, number, divisor)
                self.assertRaises(BadNumber, divided_up, number, divisor)


class RootTest(unittest.TestCase):
    def assert_roots(self, number):
        down = root_down(number)
        up = root_up(number)
        self.assertTrue(down >= 0 and up >= 0)
        self.assertTrue(down * down <= number < (down + 1) * (down + 1), number)
        self.assertTrue(up * up >= number, number)
        self.assertTrue(up == 0 or (up - 1) * (up - 1) < number, number)

    def test_small_numbers(self):
        for number in range(300):
            self.assert_roots(number)

    def test_zero_and_one(self):
        self.assertEqual([root_down(0), root_up(0), root_down(1), root_up(1)], [0, 0, 1, 1])

    def test_squares_and_their_neighbours(self):
        for root in (2, 3, 1000, 99999, 2 ** 26 + 1, 2 ** 53 + 1, 10 ** 30 - 1, GREAT):
            square = root * root
            self.assertEqual([root_down(square - 1), root_down(square), root_down(square + 1)], [root - 1, root, root])
            self.assertEqual([root_up(square - 1), root_up(square), root_up(square + 1)], [root, root, root + 1])

    def test_sixty_digits(self):
        for number in (GREAT, 10 ** 60 - 1, 10 ** 59, 7 * 10 ** 59 + 3, 123456789 ** 7):
            self.assert_roots(number)

    def test_negative_numbers(self):
        for number in (-1, -4, -GREAT):
            self.assertRaises(BadNumber, root_down, number)
            self.assertRaises(BadNumber, root_up, number)


class IntervalTest(unittest.TestCase):
    def test_is_interval(self):
        for pair in ((0, 0), (1, 2), (-5, -5), (-5, 3), (0, GREAT)):
            self.assertIs(is_interval(pair), True, pair)

    def test_pairs_the_wrong_way_round(self):
        for pair in ((1, 0), (0, -1), (-2, -3), (GREAT, 5)):
            self.assertIs(is_interval(pair), False, pair)

    def test_other_lengths(self):
        for pair in ((), (1,), (1, 2, 3), (1, 1, 1), (0, 1, 2, 3)):
            self.assertIs(is_interval(pair), False, pair)

    def test_against_the_integers_in_them(self):
        for first in SMALL_INTERVALS:
            for second in SMALL_INTERVALS:
                ones = set(range(first[0], first[1] + 1))
                others = set(range(second[0], second[1] + 1))
                sums = {one + other for one in ones for other in others}
                self.assertEqual(added(first, second), (min(sums), max(sums)))
                self.assertEqual(hull(first, second), (min(ones | others), max(ones | others)))
                both = ones & others
                expected = (min(both), max(both)) if both else None
                self.assertEqual(common(first, second), expected)

    def test_great_ones(self):
        self.assertEqual(added((-GREAT, GREAT), (1, 2)), (1 - GREAT, GREAT + 2))
        self.assertEqual(hull((GREAT, GREAT), (0, 1)), (0, GREAT))
        self.assertEqual(common((-GREAT, GREAT), (GREAT, GREAT + 1)), (GREAT, GREAT))
        self.assertIsNone(common((0, GREAT), (GREAT + 1, GREAT + 1)))


if __name__ == "__main__":
    unittest.main()
