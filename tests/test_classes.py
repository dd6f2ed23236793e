"""[o4]: equivalent rows, their classes, least rows and sizes."""

import unittest
from math import comb, factorial

from everyturn.classes import class_size, equivalent, is_least, least, rows_of_class
from everyturn.errors import TooMany, TurnError
from everyturn.schedules import run
from helper import LIMIT, PROGRAMS, act, class_of, possible, random_row, schedule_of

ROWS = [random_row(number) for number in range(150)]
WIDE = tuple(act(turn % 4, pc=turn // 4) for turn in range(40))
NARROW = tuple(act(turn % 4, "x!", pc=turn // 4) for turn in range(40))


class LeastTest(unittest.TestCase):
    def test_empty_row(self):
        self.assertEqual(least(()), ())
        self.assertIs(is_least(()), True)

    def test_one_step(self):
        self.assertEqual(least((act(3, "x!"),)), (act(3, "x!"),))
        self.assertIs(is_least((act(3, "x!"),)), True)

    def test_independent_steps_by_their_threads(self):
        row = (act(2, "x"), act(1, "y!"), act(0, "x"))
        self.assertEqual(least(row), (act(0, "x"), act(1, "y!"), act(2, "x")))
        self.assertIs(is_least(row), False)
        self.assertIs(is_least(least(row)), True)

    def test_dependent_steps_keep_their_order(self):
        row = (act(1, "x!"), act(0, "x"))
        self.assertEqual(least(row), row)
        self.assertIs(is_least(row), True)

    def test_a_step_passes_several_others(self):
        row = (act(1, "x!"), act(2, "y!"), act(1), act(0, "z!"))
        self.assertEqual(schedule_of(least(row)), (0, 1, 1, 2))
        self.assertIs(is_least((act(1, "x!"), act(1), act(0, "z!"))), False)

    def test_a_step_passes_one_that_is_higher_and_one_that_is_lower(self):
        row = (act(2, "x!"), act(0, "x!"), act(1, "y!"))
        self.assertEqual(schedule_of(least(row)), (1, 2, 0))
        self.assertIs(is_least(row), False)

    def test_the_schedule_decides_and_not_the_pc(self):
        row = (act(0, pc=5), act(1, pc=0))
        self.assertEqual(least(row), row)
        self.assertEqual(least(row[::-1]), row)

    def test_steps_that_are_made_several_times(self):
        row = (act(1), act(0), act(1), act(0))
        self.assertEqual(least(row), (act(0), act(0), act(1), act(1)))

    def test_the_least_row_is_a_tuple_of_the_same_steps(self):
        row = (act(1, "x!", pc=4, word="owner"), act(0, "y", pc=2))
        self.assertEqual(least(row), row[::-1])
        self.assertIsInstance(least(row), tuple)

    def test_each_row(self):
        for row in ROWS:
            rows = class_of(row)
            self.assertEqual(least(row), rows[0])
            self.assertEqual([is_least(other) for other in rows], [True] + [False] * (len(rows) - 1))


class EquivalentTest(unittest.TestCase):
    def test_empty_rows(self):
        self.assertIs(equivalent((), ()), True)
        self.assertIs(equivalent((), (act(0),)), False)

    def test_independent_and_dependent_steps(self):
        for touch, expected in (("x", True), ("x!", False)):
            row = (act(0, "x"), act(1, touch))
            self.assertIs(equivalent(row, row[::-1]), expected)
            self.assertIs(equivalent(row[::-1], row), expected)
            self.assertIs(equivalent(row, row), True)

    def test_rows_of_other_steps(self):
        self.assertIs(equivalent((act(0),), (act(0, pc=1),)), False)
        self.assertIs(equivalent((act(0),), (act(1),)), False)
        self.assertIs(equivalent((act(0, "x"),), (act(0, "x!"),)), False)
        self.assertIs(equivalent((act(0),), (act(0, word="range"),)), False)
        self.assertIs(equivalent((act(0), act(1)), (act(0), act(1), act(1))), False)
        self.assertIs(equivalent((act(0), act(0), act(1)), (act(0), act(1), act(1))), False)

    def test_only_through_a_third_row(self):
        row = (act(0), act(1), act(2))
        self.assertIs(equivalent(row, row[::-1]), True)

    def test_each_two_rows_of_some_steps(self):
        for row in ROWS:
            rows = class_of(row)
            self.assertEqual([equivalent(row, other) for other in rows], [True] * len(rows))
            for at in range(len(row) - 1):
                other = row[:at] + (row[at + 1], row[at]) + row[at + 2:]
                self.assertEqual(equivalent(row, other), other in rows)

    def test_equivalent_rows_lead_to_the_same_state(self):
        for program in PROGRAMS[:20]:
            entries = possible(program, LIMIT - 1)
            states = {steps: state for _, steps, state in entries}
            for _, steps, state in entries:
                for other in class_of(steps):
                    self.assertEqual(states[other], state)


class ClassSizeTest(unittest.TestCase):
    def test_empty_row(self):
        self.assertEqual(class_size(()), 1)

    def test_one_step(self):
        self.assertEqual(class_size((act(2),)), 1)

    def test_small_rows(self):
        self.assertEqual(class_size((act(0), act(1))), 2)
        self.assertEqual(class_size((act(0), act(0))), 1)
        self.assertEqual(class_size((act(0, "x!"), act(1, "x"))), 1)
        self.assertEqual(class_size((act(0), act(1), act(2))), 6)
        self.assertEqual(class_size((act(0, "x!"), act(1, "x"), act(2, "x"))), 2)
        self.assertEqual(class_size((act(0), act(1, "x!"), act(1), act(0, "x"))), 5)

    def test_each_row_of_a_class_has_its_size(self):
        for row in ROWS:
            rows = class_of(row)
            for other in rows[:3]:
                self.assertEqual(class_size(other), len(rows))

    def test_long_rows(self):
        self.assertEqual(class_size(WIDE), factorial(40) // factorial(10) ** 4)
        self.assertEqual(class_size(NARROW), 1)
        self.assertEqual(class_size(tuple(act(1 + 2 * (turn % 2)) for turn in range(40))), comb(40, 20))


class RowsOfClassTest(unittest.TestCase):
    def test_empty_row(self):
        self.assertEqual(rows_of_class((), 1), [()])

    def test_in_the_order_of_tuples(self):
        self.assertEqual(rows_of_class((act(2), act(1), act(0)), 6),
                         [(0, 1, 2), (0, 2, 1), (1, 0, 2), (1, 2, 0), (2, 0, 1), (2, 1, 0)])
        self.assertEqual(rows_of_class((act(1, "x!"), act(0, "x"), act(0), act(2)), 3000),
                         [(1, 0, 0, 2), (1, 0, 2, 0), (1, 2, 0, 0), (2, 1, 0, 0)])

    def test_each_row(self):
        for row in ROWS:
            schedules = [schedule_of(other) for other in class_of(row)]
            self.assertEqual(rows_of_class(row, len(schedules)), schedules)
            self.assertEqual(sorted(schedules), schedules)
            self.assertEqual(len(set(schedules)), len(schedules))

    def assert_too_many(self, row, most):
        with self.assertRaises(TooMany) as caught:
            rows_of_class(row, most)
        self.assertEqual(caught.exception.limit, most)
        self.assertIsInstance(caught.exception, TurnError)

    def test_just_as_many_as_may_be_and_one_too_many(self):
        row = (act(0), act(1), act(2), act(2, "y!"))
        self.assertEqual(len(rows_of_class(row, 12)), 12)
        self.assert_too_many(row, 11)
        self.assert_too_many(row, 1)
        self.assertEqual(len(rows_of_class(NARROW, 1)), 1)

    def test_far_too_many(self):
        self.assert_too_many(WIDE, 3000)

    def test_the_rows_are_possible_schedules_with_the_same_steps(self):
        for program in PROGRAMS[:20]:
            for schedule, steps, state in possible(program, LIMIT)[-10:]:
                for other in rows_of_class(steps, 3000):
                    behind, row = run(program, other)
                    self.assertEqual(behind, state)
                    self.assertEqual(sorted(map(repr, row)), sorted(map(repr, steps)))

    def test_the_list_is_new(self):
        row = (act(0), act(1))
        rows_of_class(row, 2).clear()
        self.assertEqual(rows_of_class(row, 2), [(0, 1), (1, 0)])


if __name__ == "__main__":
    unittest.main()
