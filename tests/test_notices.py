"""[f4]: lost notices."""

import unittest

from everyturn.errors import NotEnabled, TurnError
from everyturn.notices import lost_notices
from helper import LIMIT, PROGRAMS, build, class_of, complete, lost_by_trying, possible, schedule_of

WAIT = "lock m; wait w; unlock m"


class LostNoticesTest(unittest.TestCase):
    def test_empty_schedule(self):
        self.assertEqual(lost_notices(build("notify w"), ()), [])
        self.assertEqual(lost_notices(build("take a q"), ()), [])

    def test_a_notice_that_nobody_hears(self):
        for line in ("notify w", "notify all w"):
            self.assertEqual(lost_notices(build(WAIT, line), (1, 0, 0)), [("lost", 1, 0, "w")])
            self.assertEqual(lost_notices(build("let a = 1; " + line, WAIT), (0, 1, 0, 1)), [("lost", 0, 1, "w")])

    def test_a_notice_that_somebody_hears(self):
        for line in ("notify w", "notify all w"):
            program = build(WAIT, line)
            self.assertEqual(lost_notices(program, (0, 0, 1, 0, 0)), [])

    def test_nobody_waits_at_the_end(self):
        program = build("notify w", "let a = 1")
        self.assertEqual(lost_notices(program, (0, 1)), [])
        program = build(WAIT, "notify w; lock m; notify w; unlock m")
        self.assertEqual(lost_notices(program, (1, 0, 0, 1, 1, 1, 0, 0)), [])

    def test_a_last_state_that_is_not_final(self):
        program = build(WAIT, "notify w; stop")
        self.assertEqual(lost_notices(program, (1, 0, 0)), [])
        self.assertEqual(lost_notices(program, (1, 0, 0, 1)), [("lost", 1, 0, "w")])
        self.assertEqual(lost_notices(program, (1,)), [])

    def test_a_thread_that_never_stops(self):
        program = build(WAIT, "notify w; go 1")
        self.assertEqual(lost_notices(program, (1, 0, 0) + (1,) * 37), [])

    def test_a_notice_that_another_thread_heard(self):
        program = build(WAIT, WAIT, "notify w")
        self.assertEqual(lost_notices(program, (0, 0, 2, 0, 0, 1, 1)), [])
        self.assertEqual(lost_notices(program, (0, 0, 1, 1, 2, 0, 0)), [])
        self.assertEqual(lost_notices(program, (2, 0, 0, 1, 1)), [("lost", 2, 0, "w")])

    def test_several_notices_by_their_steps(self):
        program = build("notify w; notify w", WAIT, "notify all w")
        self.assertEqual(lost_notices(program, (0, 2, 0, 1, 1)),
                         [("lost", 0, 0, "w"), ("lost", 2, 0, "w"), ("lost", 0, 1, "w")])
        self.assertEqual(lost_notices(program, (2, 0, 0, 1, 1)),
                         [("lost", 2, 0, "w"), ("lost", 0, 0, "w"), ("lost", 0, 1, "w")])
        # The third one is heard, and the thread goes on.
        self.assertEqual(lost_notices(program, (0, 2, 1, 1, 0, 1, 1)), [])

    def test_a_step_that_is_made_several_times(self):
        program = build("let a = a + 1; notify w; go 0 if a < 2", WAIT)
        self.assertEqual(lost_notices(program, (0,) * 6 + (1, 1)), [("lost", 0, 1, "w")] * 2)

    def test_a_notice_ahead_of_a_second_wait(self):
        program = build("lock m; wait w; wait w", "notify w; notify w")
        # The first notice is heard; the second one comes while the thread is woken, and waits no more.
        self.assertEqual(lost_notices(program, (0, 0, 1, 1, 0, 0)), [("lost", 1, 1, "w")])
        self.assertEqual(lost_notices(program, (0, 0, 1, 0, 1, 0)), [("lost", 1, 1, "w")])
        self.assertEqual(lost_notices(program, (0, 0, 1, 0, 0, 1, 0)), [])

    def test_each_condition_for_itself(self):
        things = "lock m\ncond w of m\ncond v of m\n"
        program = build("lock m; wait v", "notify w; notify v", things=things)
        self.assertEqual(lost_notices(program, (1, 1, 0, 0)), [("lost", 1, 1, "v")])
        self.assertEqual(lost_notices(program, (1, 0, 0, 1)), [])
        program = build("lock m; wait v; unlock m", "lock m; wait w", "notify w; notify v", things=things)
        self.assertEqual(lost_notices(program, (2, 0, 0, 2, 0, 0, 1, 1)), [("lost", 2, 0, "w")])
        # Somebody waits, but for another condition.
        self.assertEqual(lost_notices(program, (0, 0, 2, 1, 1, 2, 0, 0)), [("lost", 2, 0, "w")])

    def test_a_thread_that_is_blocked_on_something_else(self):
        program = build("lock m; lock m", "notify w")
        self.assertEqual(lost_notices(program, (1, 0)), [])

    def test_a_woken_thread_at_the_end_does_not_wait(self):
        program = build(WAIT, "notify w; lock m; notify w")
        self.assertEqual(lost_notices(program, (1, 0, 0, 1, 1)), [])

    def test_only_notices_are_told(self):
        program = build("lock m; unlock m; lock m; wait w", "put x 1; send q 1; check 0")
        self.assertEqual(lost_notices(program, (1, 1, 1, 0, 0, 0, 0)), [])

    def test_each_execution(self):
        for program in PROGRAMS:
            for schedule, _, _ in complete(program, LIMIT)[::3]:
                self.assertEqual(lost_notices(program, schedule), lost_by_trying(program, schedule))

    def test_equivalent_executions_have_the_same(self):
        for program in PROGRAMS[:60]:
            for schedule, steps, _ in possible(program, LIMIT)[-5:]:
                for other in class_of(steps):
                    self.assertEqual(sorted(lost_notices(program, schedule_of(other))),
                                     sorted(lost_notices(program, schedule)))


class NotEnabledTest(unittest.TestCase):
    def assert_stops(self, program, schedule, at):
        with self.assertRaises(NotEnabled) as caught:
            lost_notices(program, schedule)
        self.assertEqual(caught.exception.at, at)
        self.assertIsInstance(caught.exception, TurnError)

    def test_a_schedule_that_is_not_possible(self):
        program = build(WAIT, "notify w")
        self.assert_stops(program, (1, 1), 1)
        self.assert_stops(program, (1, 0, 0, 0), 3)
        self.assert_stops(program, (0, 0, 0, 1), 2)
        self.assert_stops(build("take a q", "notify w"), (0, 1), 0)


if __name__ == "__main__":
    unittest.main()
