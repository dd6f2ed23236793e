"""[o1] to [o3]: dependent steps, what happens before, clocks."""

import unittest

from everyturn.order import before, clocks, dependent
from helper import act, depend, happens, random_row

ROWS = [random_row(number, threads=4, length=9) for number in range(200)]


class DependentTest(unittest.TestCase):
    def assert_dependent(self, one, other, expected):
        self.assertIs(dependent(one, other), expected, (one, other))
        self.assertIs(dependent(other, one), expected, (other, one))

    def test_steps_of_one_thread(self):
        self.assert_dependent(act(0), act(0, pc=1), True)
        self.assert_dependent(act(2, "x"), act(2, "y"), True)
        self.assert_dependent(act(1, "x!"), act(1, "x!"), True)

    def test_steps_of_two_threads_on_one_thing(self):
        self.assert_dependent(act(0, "x!"), act(1, "x!"), True)
        self.assert_dependent(act(0, "x!"), act(1, "x"), True)
        self.assert_dependent(act(0, "x"), act(1, "x!"), True)
        self.assert_dependent(act(0, "x"), act(1, "x"), False)

    def test_steps_of_two_threads_on_different_things(self):
        self.assert_dependent(act(0, "x!"), act(1, "y!"), False)
        self.assert_dependent(act(0), act(1), False)
        self.assert_dependent(act(0), act(3, "x!"), False)

    def test_steps_with_several_touches(self):
        self.assert_dependent(act(0, "m!", "w!"), act(1, "w!"), True)
        self.assert_dependent(act(0, "m!", "w!"), act(1, "m!"), True)
        self.assert_dependent(act(0, "m!", "w"), act(1, "n!", "w"), False)
        self.assert_dependent(act(0, "m!", "w"), act(1, "w!"), True)
        self.assert_dependent(act(0, "m!", "w!"), act(1, "n!", "v!"), False)

    def test_the_same_thing_must_be_written(self):
        self.assert_dependent(act(0, "x", "y!"), act(1, "x", "z!"), False)
        self.assert_dependent(act(0, "x!", "y"), act(1, "y", "z!"), False)

    def test_pcs_and_words_do_not_matter(self):
        self.assert_dependent(act(0, "x", pc=3), act(1, "x", pc=3), False)
        self.assert_dependent(act(0, pc=3, word="range"), act(1, pc=3, word="range"), False)

    def test_each_pair_of_steps(self):
        for row in ROWS:
            for one in row:
                for other in row:
                    self.assert_dependent(one, other, depend(one, other))


class BeforeTest(unittest.TestCase):
    def test_empty_row(self):
        self.assertEqual(before(()), [])

    def test_independent_steps(self):
        self.assertEqual(before((act(0, "x"), act(1, "x"), act(2))), [(), (), ()])

    def test_steps_of_one_thread_in_their_order(self):
        self.assertEqual(before((act(0), act(0), act(0))), [(), (0,), (0, 1)])

    def test_dependent_steps(self):
        self.assertEqual(before((act(0, "x!"), act(1, "x"), act(2, "x"), act(3, "x!"))),
                         [(), (0,), (0,), (0, 1, 2)])

    def test_through_a_third_step(self):
        row = (act(0, "x!"), act(1, "x"), act(1, "y!"), act(2, "y"), act(2))
        self.assertEqual(before(row), [(), (0,), (0, 1), (0, 1, 2), (0, 1, 2, 3)])

    def test_a_step_between_that_does_not_matter(self):
        row = (act(0, "x!"), act(1, "y!"), act(2, "x"))
        self.assertEqual(before(row), [(), (), (0,)])

    def test_a_later_step_does_not_happen_before(self):
        row = (act(1, "y"), act(0, "x!"), act(1, "x!"))
        self.assertEqual(before(row), [(), (), (0, 1)])

    def test_each_row(self):
        for row in ROWS:
            expected = [tuple(i for i in range(j) if happens(row, i, j)) for j in range(len(row))]
            self.assertEqual(before(row), expected)

    def test_the_list_is_new(self):
        row = (act(0), act(0))
        before(row).clear()
        self.assertEqual(before(row), [(), (0,)])


class ClocksTest(unittest.TestCase):
    def test_empty_row(self):
        self.assertEqual(clocks((), 2), [])

    def test_own_steps_are_counted_with_the_step_itself(self):
        self.assertEqual(clocks((act(0), act(1), act(0), act(1)), 2), [(1, 0), (0, 1), (2, 0), (0, 2)])

    def test_steps_that_happen_before(self):
        row = (act(0), act(0, "x!"), act(1), act(1, "x"), act(0), act(1))
        self.assertEqual(clocks(row, 2), [(1, 0), (2, 0), (0, 1), (2, 2), (3, 0), (2, 3)])

    def test_through_a_third_thread(self):
        row = (act(0, "x!"), act(1, "x"), act(1, "y!"), act(2, "y"))
        self.assertEqual(clocks(row, 3), [(1, 0, 0), (1, 1, 0), (1, 2, 0), (1, 2, 1)])

    def test_threads_without_steps(self):
        self.assertEqual(clocks((act(2, "x!"), act(1, "x!")), 4), [(0, 0, 1, 0), (0, 1, 1, 0)])
        self.assertEqual(clocks((act(0),), 1), [(1,)])

    def test_clocks_tell_what_happens_before(self):
        for row in ROWS:
            told = clocks(row, 4)
            for j in range(len(row)):
                counted = [k for k in range(j + 1) if k == j or happens(row, k, j)]
                self.assertEqual(told[j], tuple(sum(row[k][0] == thread for k in counted) for thread in range(4)))
                for i in range(j):
                    thread = row[i][0]
                    self.assertEqual(happens(row, i, j), told[j][thread] >= told[i][thread])


if __name__ == "__main__":
    unittest.main()
