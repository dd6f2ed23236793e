"""[v1], [c3]: values, and the operations on them."""

import unittest

from everyturn.values import is_value, operate

ALL = range(-99, 100)


class IsValueTest(unittest.TestCase):
    def test_edges(self):
        self.assertIs(is_value(-99), True)
        self.assertIs(is_value(99), True)

    def test_one_beyond_each_edge(self):
        self.assertIs(is_value(-100), False)
        self.assertIs(is_value(100), False)

    def test_every_value_and_far_beyond(self):
        for n in ALL:
            self.assertIs(is_value(n), True)
        self.assertIs(is_value(9801), False)
        self.assertIs(is_value(-9801), False)


class ArithmeticTest(unittest.TestCase):
    def test_plus_just_inside_and_just_outside(self):
        self.assertEqual(operate("+", 98, 1), 99)
        self.assertIsNone(operate("+", 99, 1))
        self.assertEqual(operate("+", -98, -1), -99)
        self.assertIsNone(operate("+", -99, -1))
        self.assertEqual(operate("+", -99, 99), 0)

    def test_minus_just_inside_and_just_outside(self):
        self.assertEqual(operate("-", -98, 1), -99)
        self.assertIsNone(operate("-", -99, 1))
        self.assertEqual(operate("-", 98, -1), 99)
        self.assertIsNone(operate("-", 99, -1))
        self.assertEqual(operate("-", 3, 5), -2)

    def test_times_just_inside_and_just_outside(self):
        self.assertEqual(operate("*", 11, 9), 99)
        self.assertIsNone(operate("*", 10, 10))
        self.assertEqual(operate("*", -33, 3), -99)
        self.assertIsNone(operate("*", 50, -2))
        self.assertEqual(operate("*", -9, -11), 99)
        self.assertIsNone(operate("*", -10, -10))
        self.assertEqual(operate("*", -99, 0), 0)

    def test_all_pairs_of_values(self):
        for x in ALL:
            for y in ALL:
                for sign, result in (("+", x + y), ("-", x - y), ("*", x * y)):
                    expected = result if -99 <= result <= 99 else None
                    self.assertEqual(operate(sign, x, y), expected, (sign, x, y))


class ClaimsTest(unittest.TestCase):
    def assert_operates(self, sign, x, y, expected):
        result = operate(sign, x, y)
        self.assertEqual(result, expected, (sign, x, y))
        self.assertIs(type(result), int, (sign, x, y))

    def test_equals(self):
        for x, y, expected in ((5, 5, 1), (5, -5, 0), (0, 0, 1), (-3, -3, 1), (0, 1, 0), (-99, 99, 0)):
            self.assert_operates("=", x, y, expected)

    def test_less(self):
        for x, y, expected in ((1, 2, 1), (2, 2, 0), (3, 2, 0), (-2, -1, 1), (-1, -2, 0), (-1, 0, 1), (0, -1, 0)):
            self.assert_operates("<", x, y, expected)

    def test_and(self):
        for x, y, expected in ((0, 0, 0), (0, 7, 0), (7, 0, 0), (7, 3, 1), (-1, 2, 1), (-1, -99, 1), (-1, 0, 0)):
            self.assert_operates("and", x, y, expected)

    def test_or(self):
        for x, y, expected in ((0, 0, 0), (0, 7, 1), (7, 0, 1), (7, 3, 1), (-1, 0, 1), (0, -99, 1), (-1, 1, 1)):
            self.assert_operates("or", x, y, expected)

    def test_all_pairs_of_values(self):
        for x in ALL:
            for y in ALL:
                self.assertEqual(operate("=", x, y), 1 if x == y else 0)
                self.assertEqual(operate("<", x, y), 1 if x < y else 0)
                self.assertEqual(operate("and", x, y), 0 if 0 in (x, y) else 1)
                self.assertEqual(operate("or", x, y), 0 if x == 0 and y == 0 else 1)


if __name__ == "__main__":
    unittest.main()
