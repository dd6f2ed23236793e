"""[x1] to [x3]: executions, least schedules, their order, and limits."""

import unittest

from everyturn.errors import TooMany, TurnError
from everyturn.exploring import executions, tried
from everyturn.schedules import run
from helper import LIMIT, PROGRAMS, build, class_of, complete, possible, schedule_of

MOST = 3000
CROSSED = build("put x 1; get a y", "put y 1; get a x")


def least_by_trying(program, limit):
    """The least schedules, found from all possible ones and their classes, in the order of [x2]."""
    found = set()
    seen = set()
    for _, steps, _ in possible(program, limit):
        if steps not in seen:
            rows = class_of(steps)
            seen.update(rows)
            found.add(schedule_of(rows[0]))
    # A schedule stands ahead of those that it begins, and these by their threads: that is the order of tuples.
    return sorted(found)


def schedules(entries):
    return [entry[0] for entry in entries]


class TriedTest(unittest.TestCase):
    def test_order_and_incomplete_schedules(self):
        self.assertEqual(schedules(tried(CROSSED, 40, MOST)),
                         [(), (0,), (0, 0), (0, 0, 1), (0, 0, 1, 1), (0, 1), (0, 1, 0), (0, 1, 0, 1), (0, 1, 1),
                          (1,), (1, 1), (1, 1, 0), (1, 1, 0, 0)])

    def test_steps_and_states(self):
        for schedule, steps, state in tried(CROSSED, 40, MOST):
            self.assertEqual((state, steps), run(CROSSED, schedule))

    def test_independent_threads_have_one_class(self):
        program = build("let a = 1; let a = 2", "let a = 1", "let a = 1", "get a x")
        self.assertEqual(schedules(executions(program, 40, MOST)), [(0, 0, 1, 2, 3)])
        self.assertEqual(schedules(tried(program, 2, MOST)),
                         [(), (0,), (0, 0), (0, 1), (0, 2), (0, 3), (1,), (1, 2), (1, 3), (2,), (2, 3), (3,)])

    def test_dependent_threads(self):
        program = build("add x 1", "add x 1", "add x 1", things="var x = 0\n")
        self.assertEqual(schedules(executions(program, 3, MOST)),
                         [(0, 1, 2), (0, 2, 1), (1, 0, 2), (1, 2, 0), (2, 0, 1), (2, 1, 0)])

    def test_each_program(self):
        for program in PROGRAMS:
            for limit in (0, 1, 2, LIMIT):
                entries = tried(program, limit, MOST)
                self.assertEqual(schedules(entries), least_by_trying(program, limit))
                for schedule, steps, state in entries:
                    self.assertEqual((state, steps), run(program, schedule))

    def test_limit_of_no_step(self):
        self.assertEqual(tried(CROSSED, 0, 1), [((), (), run(CROSSED, ())[0])])

    def test_limit_of_one_step(self):
        self.assertEqual(schedules(tried(CROSSED, 1, MOST)), [(), (0,), (1,)])

    def test_final_first_state(self):
        program = build("take a q", "take b q")
        self.assertEqual(schedules(tried(program, 40, 1)), [()])

    def test_program_without_an_end(self):
        program = build("go 0", things="")
        self.assertEqual(schedules(tried(program, 40, 41)), [(0,) * many for many in range(41)])

    def test_the_list_is_new(self):
        tried(CROSSED, 40, MOST).clear()
        self.assertEqual(len(tried(CROSSED, 40, MOST)), 13)


class TooManyTest(unittest.TestCase):
    def assert_too_many(self, search, program, limit, most):
        with self.assertRaises(TooMany) as caught:
            search(program, limit, most)
        self.assertEqual(caught.exception.limit, most)
        self.assertIsInstance(caught.exception, TurnError)

    def test_just_enough_and_one_too_low(self):
        self.assertEqual(len(tried(CROSSED, 40, 13)), 13)
        self.assertEqual(len(executions(CROSSED, 40, 13)), 3)
        for search in (tried, executions):
            self.assert_too_many(search, CROSSED, 40, 12)
            self.assert_too_many(search, CROSSED, 40, 3)
            self.assert_too_many(search, CROSSED, 40, 1)

    def test_the_limit_of_steps_counts(self):
        self.assertEqual(len(tried(CROSSED, 1, 3)), 3)
        self.assert_too_many(tried, CROSSED, 1, 2)
        self.assertEqual(len(tried(CROSSED, 0, 1)), 1)

    def test_each_program(self):
        for program in PROGRAMS[:30]:
            many = len(least_by_trying(program, LIMIT))
            self.assertEqual(len(tried(program, LIMIT, many)), many)
            self.assert_too_many(tried, program, LIMIT, many - 1)
            self.assert_too_many(executions, program, LIMIT, many - 1)

    def test_far_too_many(self):
        program = build("add x 1; go 0", "add x -1; go 0", "add x 0; go 0")
        self.assert_too_many(tried, program, 40, MOST)


class ExecutionsTest(unittest.TestCase):
    def test_only_complete_schedules(self):
        self.assertEqual(schedules(executions(CROSSED, 40, MOST)), [(0, 0, 1, 1), (0, 1, 0, 1), (1, 1, 0, 0)])

    def test_entries_are_those_of_tried(self):
        entries = tried(CROSSED, 40, MOST)
        for entry in executions(CROSSED, 40, MOST):
            self.assertIn(entry, entries)

    def test_limit_that_ends_them(self):
        self.assertEqual(schedules(executions(CROSSED, 0, MOST)), [()])
        self.assertEqual(schedules(executions(CROSSED, 1, MOST)), [(0,), (1,)])
        self.assertEqual(schedules(executions(CROSSED, 2, MOST)), [(0, 0), (0, 1), (1, 1)])
        self.assertEqual(schedules(executions(CROSSED, 3, MOST)), [(0, 0, 1), (0, 1, 0), (0, 1, 1), (1, 1, 0)])
        self.assertEqual(executions(CROSSED, 4, MOST), executions(CROSSED, 40, MOST))

    def test_final_states_ahead_of_the_limit(self):
        program = build("lock m; lock n", "lock n; lock m")
        self.assertEqual(schedules(executions(program, 40, MOST)), [(0, 0), (0, 1), (1, 1)])
        program = build("lock m; lock n; unlock m; unlock n", "lock n; lock m; unlock m; unlock n")
        self.assertEqual(schedules(executions(program, 40, MOST)),
                         [(0, 0, 0, 0, 1, 1, 1, 1), (0, 1), (1, 1, 1, 0, 1, 0, 0, 0)])

    def test_final_first_state(self):
        program = build("take a q", "take b q")
        self.assertEqual(schedules(executions(program, 40, MOST)), [()])
        self.assertEqual(schedules(executions(program, 0, MOST)), [()])

    def test_each_program(self):
        for program in PROGRAMS:
            for limit in (0, 3, LIMIT):
                self.assertEqual(executions(program, limit, MOST), complete_least(program, limit))


def complete_least(program, limit):
    """The executions that are least schedules, found from all executions and their classes."""
    return sorted([entry for entry in complete(program, limit) if class_of(entry[1])[0] == entry[1]],
                  key=lambda entry: entry[0])


if __name__ == "__main__":
    unittest.main()
