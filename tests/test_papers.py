"""[j2]: the papers that the program makes."""

import unittest

from everyturn.errors import TooMany, TurnError
from everyturn.machine import blocked, enabled, first_state, make_step
from everyturn.papers import paper_of
from everyturn.schedules import run
from helper import BLOCK_PROGRAMS, GUARDED_PROGRAMS, PROGRAMS, build

LOCKED = build("lock m; add x 1; unlock m", "lock m; add x 2; unlock m")


def paper_by_schedules(program, limit):
    """[j2]: the paper by trying schedules of each length, the shorter ones first: a state is found by its first one."""
    found = {}
    ahead = [()]
    while ahead:
        longer = []
        for schedule in ahead:
            state, steps = run(program, schedule)
            if steps and steps[-1][3] is not None:
                return None
            if state not in found:
                if blocked(program, state) and not enabled(program, state):
                    return None
                found[state] = schedule
                if len(found) > limit:
                    return "too many"
                longer.extend(schedule + (thread,) for thread in enabled(program, state))
        ahead = longer
    return list(found)


class PaperTest(unittest.TestCase):
    def assert_too_many(self, program, limit):
        with self.assertRaises(TooMany) as caught:
            paper_of(program, limit)
        self.assertEqual(caught.exception.limit, limit)
        self.assertIsInstance(caught.exception, TurnError)

    def test_one_thread(self):
        program = build("add x 1; let a = 3")
        self.assertEqual(paper_of(program, 100), [run(program, (0,) * many)[0] for many in range(3)])

    def test_breadth_first_and_by_rising_threads(self):
        program = build("put x 1; put x 3", "get a x")
        schedules = [(), (0,), (1,), (0, 0), (0, 1), (1, 0), (0, 0, 1), (0, 1, 0), (1, 0, 0)]
        self.assertEqual(paper_of(program, 100), [run(program, schedule)[0] for schedule in schedules])

    def test_a_state_that_several_schedules_lead_to(self):
        program = build("add x 1", "add x 2")
        schedules = [(), (0,), (1,), (0, 1)]
        self.assertEqual(paper_of(program, 100), [run(program, schedule)[0] for schedule in schedules])

    def test_a_program_without_an_end(self):
        program = build("let a = 1; let a = 0; go 0")
        self.assertEqual(paper_of(program, 100), [run(program, (0,) * many)[0] for many in range(3)])
        self.assertEqual(paper_of(build("go 0"), 1), [first_state(build("go 0"))])

    def test_a_failure(self):
        self.assertIsNone(paper_of(build("check 0"), 100))
        self.assertIsNone(paper_of(build("let a = a + 1; go 0"), 200))
        self.assertIsNone(paper_of(build("get a x; check a < 2", "put x 1; put x 2", things="var x = 0\n"), 100))

    def test_a_deadlock(self):
        self.assertIsNone(paper_of(build("lock m; lock n", "lock n; lock m"), 100))
        self.assertIsNone(paper_of(build("lock m; stop", "lock m"), 100))
        self.assertIsNone(paper_of(build("take a q", "take b q"), 100))
        self.assertIsNone(paper_of(build("take a q"), 1))

    def test_races_and_lost_notices_are_no_matter(self):
        self.assertEqual(len(paper_of(build("put x 1", "put x 2"), 100)), 5)
        self.assertEqual(len(paper_of(build("notify w"), 100)), 2)

    def test_just_enough_and_one_too_low(self):
        many = len(paper_of(LOCKED, 100))
        self.assertEqual(paper_of(LOCKED, many), paper_of(LOCKED, 100))
        self.assert_too_many(LOCKED, many - 1)
        self.assert_too_many(LOCKED, 2)
        self.assert_too_many(LOCKED, 1)
        self.assertEqual(len(paper_of(build("stop"), 2)), 2)
        self.assert_too_many(build("stop"), 1)

    def test_a_failure_that_is_found_before_the_limit_is_passed(self):
        # The state behind a failure is not found: the failure is, with its step.
        self.assertIsNone(paper_of(build("check 0"), 1))
        self.assertIsNone(paper_of(build("let a = 1; check 0"), 2))
        self.assert_too_many(build("let a = 1; check 0"), 1)
        self.assertIsNone(paper_of(build("check 0", "let a = 1"), 1))
        # Here the step of thread 0 leads to the second state before thread 1 fails.
        self.assert_too_many(build("let a = 1", "check 0"), 1)
        self.assertIsNone(paper_of(build("let a = 1", "check 0"), 2))

    def test_a_deadlock_that_is_found_before_the_limit_is_passed(self):
        # One state more is found, but it is the deadlock.
        self.assertIsNone(paper_of(build("lock m; lock m"), 1))
        self.assertIsNone(paper_of(build("let a = 1; lock m; lock m"), 2))
        self.assert_too_many(build("let a = 1; lock m; lock m"), 1)
        # Thread 0 alone keeps both locks, so the fourth state is a deadlock already.
        self.assertIsNone(paper_of(build("lock m; lock n", "lock n; lock m"), 3))
        self.assert_too_many(build("lock m; lock n", "lock n; lock m"), 2)

    def test_the_list_is_new(self):
        paper_of(LOCKED, 100).clear()
        self.assertEqual(paper_of(LOCKED, 100)[0], first_state(LOCKED))

    def test_no_state_twice_and_each_step_in_it(self):
        for program in PROGRAMS + GUARDED_PROGRAMS:
            paper = paper_of(program, 3000)
            if paper is not None:
                self.assertEqual(len(set(paper)), len(paper))
                for state in paper:
                    for thread in enabled(program, state):
                        self.assertIn(make_step(program, state, thread)[0], paper)

    def test_each_program(self):
        found = []
        for program in PROGRAMS + GUARDED_PROGRAMS + BLOCK_PROGRAMS[::2]:
            for limit in (1, 2, 3, 5, 8, 13, 300):
                expected = paper_by_schedules(program, limit)
                found.append(expected if expected in (None, "too many") else "paper")
                if expected == "too many":
                    self.assert_too_many(program, limit)
                else:
                    self.assertEqual(paper_of(program, limit), expected)
        for kind in (None, "too many", "paper"):
            self.assertGreater(found.count(kind), 100, kind)


if __name__ == "__main__":
    unittest.main()
