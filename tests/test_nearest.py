"""[n1], [n2]: places, and the nearest schedules that lead to them."""

import unittest

from everyturn.errors import NotEnabled, TurnError
from everyturn.machine import blocked, enabled
from everyturn.nearest import leads_to, nearest
from helper import BLOCK_PROGRAMS, LIMIT, PROGRAMS, build, possible

CROSSED = build("lock m; lock n", "lock n; lock m")
STUCK = ("deadlock", ((0, "n"), (1, "m")))


class LeadsToTest(unittest.TestCase):
    def test_a_failure(self):
        program = build("let a = 1; check 0", "add x 98")
        self.assertIs(leads_to(program, (0, 0), ("failure", 0, 1, "check")), True)
        self.assertIs(leads_to(program, (0, 1), ("failure", 1, 0, "range")), True)
        self.assertIs(leads_to(program, (1, 0, 0), ("failure", 0, 1, "check")), True)

    def test_the_last_step_alone_counts(self):
        program = build("let a = 1; check 0", "add x 98; stop", "let a = 1")
        self.assertIs(leads_to(program, (1, 0), ("failure", 1, 0, "range")), False)
        self.assertIs(leads_to(program, (0, 0, 2), ("failure", 0, 1, "check")), False)
        self.assertIs(leads_to(program, (0, 0, 1), ("failure", 0, 1, "check")), False)
        self.assertIs(leads_to(program, (0, 0, 1), ("failure", 1, 0, "range")), True)

    def test_each_part_of_a_failure(self):
        program = build("check 0; check 0", "check 0")
        for place in (("failure", 1, 0, "check"), ("failure", 0, 1, "check"), ("failure", 0, 0, "range"),
                      ("failure", 0, 7, "check"), ("failure", 3, 0, "check"), ("failure", 0, 0, "owner")):
            self.assertIs(leads_to(program, (0,), place), False, place)
        self.assertIs(leads_to(program, (0,), ("failure", 0, 0, "check")), True)

    def test_a_step_that_does_not_fail(self):
        self.assertIs(leads_to(build("check a; stop"), (0,), ("failure", 0, 0, "check")), True)
        self.assertIs(leads_to(build("check a < 1; stop"), (0,), ("failure", 0, 0, "check")), False)

    def test_a_deadlock(self):
        self.assertIs(leads_to(CROSSED, (0, 1), STUCK), True)
        self.assertIs(leads_to(CROSSED, (1, 0), STUCK), True)
        for schedule in ((), (0,), (1,), (0, 0)):
            self.assertIs(leads_to(CROSSED, schedule, STUCK), False, schedule)

    def test_another_deadlock(self):
        for stuck in ((), ((0, "n"),), ((0, "m"), (1, "n")), ((1, "m"), (0, "n")), ((0, "n"), (1, "m"), (2, "m"))):
            self.assertIs(leads_to(CROSSED, (0, 1), ("deadlock", stuck)), False, stuck)
        self.assertIs(leads_to(CROSSED, (0, 0), ("deadlock", ((1, "n"),))), True)

    def test_blocked_threads_in_a_state_that_is_no_deadlock(self):
        program = build("lock m; lock m", "stop")
        self.assertIs(leads_to(program, (0,), ("deadlock", ((0, "m"),))), False)
        self.assertIs(leads_to(program, (0, 1), ("deadlock", ((0, "m"),))), True)
        # All threads are over, so none is blocked.
        self.assertIs(leads_to(build("stop"), (0,), ("deadlock", ())), False)

    def test_the_empty_schedule(self):
        program = build("take a q", "take b q")
        self.assertIs(leads_to(program, (), ("deadlock", ((0, "q"), (1, "q")))), True)
        self.assertIs(leads_to(program, (), ("deadlock", ((0, "q"),))), False)
        self.assertIs(leads_to(program, (), ("failure", 0, 0, "check")), False)
        self.assertIs(leads_to(build("check 0"), (), ("failure", 0, 0, "check")), False)

    def test_a_failure_that_ends_in_a_deadlock(self):
        program = build("lock m; check 0", "lock m")
        self.assertIs(leads_to(program, (0, 0), ("failure", 0, 1, "check")), True)
        self.assertIs(leads_to(program, (0, 0), ("deadlock", ((1, "m"),))), True)

    def test_a_schedule_that_is_not_possible(self):
        for schedule, at in (((0, 1, 0), 2), ((2,), 0), ((0, 0, 1), 2)):
            for place in (STUCK, ("failure", 0, 0, "check"), ("failure", 9, 99, "range")):
                with self.assertRaises(NotEnabled) as caught:
                    leads_to(CROSSED, schedule, place)
                self.assertEqual(caught.exception.at, at)
                self.assertIsInstance(caught.exception, TurnError)

    def test_each_schedule(self):
        found = 0
        for program in PROGRAMS[::3]:
            places = all_places(program, LIMIT)
            for schedule, steps, state in possible(program, LIMIT)[::5]:
                for place in places:
                    self.assertIs(leads_to(program, schedule, place), is_there(program, steps, state, place))
                    found += is_there(program, steps, state, place)
        self.assertGreater(found, 40)


def is_there(program, steps, state, place):
    """[n1]: whether a schedule with these steps and this last state leads to a place."""
    if place[0] == "failure":
        return steps != () and (steps[-1][0], steps[-1][1], steps[-1][3]) == place[1:]
    return place[1] != () and not enabled(program, state) and blocked(program, state) == place[1]


def all_places(program, limit):
    """All places that schedules lead to, and some to which none may."""
    found = {("failure", 0, 0, "range"), ("failure", 1, 12, "check"), ("deadlock", ((0, "x"),)), ("deadlock", ())}
    for _, steps, state in possible(program, limit):
        if steps and steps[-1][3] is not None:
            found.add(("failure", steps[-1][0], steps[-1][1], steps[-1][3]))
        if not enabled(program, state):
            found.add(("deadlock", blocked(program, state)))
    return sorted(found, key=repr)


def switches_of(schedule):
    return len([1 for one, other in zip(schedule, schedule[1:]) if one != other])


def nearest_by_trying(program, place, limit):
    """[n2]: the nearest schedule, from all possible ones."""
    led = [schedule for schedule, steps, state in possible(program, limit) if is_there(program, steps, state, place)]
    return min(led, key=lambda schedule: (len(schedule), switches_of(schedule), schedule), default=None)


class NearestTest(unittest.TestCase):
    def test_a_deadlock(self):
        self.assertEqual(nearest(CROSSED, STUCK, 10), (0, 1))

    def test_the_fewest_steps(self):
        program = build("let a = 1; let a = 2; let a = 3; check 0")
        self.assertEqual(nearest(program, ("failure", 0, 3, "check"), 40), (0, 0, 0, 0))
        program = build("get a x; check a = 0", "let a = 1; put x 1", "put x 2", things="var x = 0\n")
        self.assertEqual(nearest(program, ("failure", 0, 1, "check"), 40), (2, 0, 0))

    def test_more_switches_but_fewer_steps(self):
        program = build("get a x; go 0 if a = 0; get b y; check b", "put x 1; let a = 1; put y 0",
                        things="var x = 0\nvar y = 1\n")
        self.assertEqual(nearest(program, ("failure", 0, 3, "check"), 40), (1, 1, 1, 0, 0, 0, 0))
        program = build("add x 1; get a x; check a = 1", "get a x; go 2 if a = 1; stop; add x 1", things="var x = 0\n")
        self.assertEqual(nearest(program, ("failure", 0, 2, "check"), 40), None)
        program = build("add x 1; get a x; check a = 1", "get a x; go 3 if a = 1; stop; add x 1", things="var x = 0\n")
        self.assertEqual(nearest(program, ("failure", 0, 2, "check"), 40), (0, 1, 1, 1, 0, 0))

    def test_as_many_steps_and_fewer_switches(self):
        # (0, 1, 0, 0) is the first tuple, but it has one switch more.
        program = build("let a = 1; get b x; check b < 1", "add x 1", things="var x = 0\n")
        self.assertEqual(nearest(program, ("failure", 0, 2, "check"), 40), (1, 0, 0, 0))
        program = build("get b x; check b < 2; stop", "add x 1; add x 1", things="var x = 0\n")
        self.assertEqual(nearest(program, ("failure", 0, 1, "check"), 40), (1, 1, 0, 0))
        program = build("add x 1; add x 1", "add x 1; add x 1; get a x; check a < 4", things="var x = 0\n")
        self.assertEqual(nearest(program, ("failure", 1, 3, "check"), 40), (0, 0, 1, 1, 1, 1))
        program = build("let a = 1; lock m; lock n", "lock n; lock m", things="lock m\nlock n\n")
        self.assertEqual(nearest(program, STUCK, 40), (0, 0, 1))

    def test_as_many_switches_and_the_first_tuple(self):
        program = build("add x 1", "add x 1", "get a x; check a < 2", things="var x = 0\n")
        self.assertEqual(nearest(program, ("failure", 2, 1, "check"), 40), (0, 1, 2, 2))
        program = build("get a x; check a < 2", "add x 1", "add x 1", things="var x = 0\n")
        self.assertEqual(nearest(program, ("failure", 0, 1, "check"), 40), (1, 2, 0, 0))

    def test_the_same_state_by_threads_that_go_on(self):
        # Threads 0 and 1 lead to the same state, but what comes next makes no switch behind thread 0.
        program = build("add x 1; check 0", "add x 1", things="var x = 0\n")
        self.assertEqual(nearest(program, ("failure", 0, 1, "check"), 40), (0, 0))
        program = build("add x 1; get a x; check a < 2", "add x 1", things="var x = 0\n")
        self.assertEqual(nearest(program, ("failure", 0, 2, "check"), 40), (1, 0, 0, 0))

    def test_the_same_state_by_other_states(self):
        # Whatever x was, thread 2 leads to the same state by its first step.
        program = build("put x 1; add y 1", "put x 2; add y 1", "put x 3; get a y; check a < 2",
                        things="var x = 0\nvar y = 0\n")
        self.assertEqual(nearest(program, ("failure", 2, 2, "check"), 40), (0, 0, 1, 1, 2, 2, 2))

    def test_the_empty_schedule(self):
        program = build("take a q", "take b q")
        for limit in (0, 1, 40):
            self.assertEqual(nearest(program, ("deadlock", ((0, "q"), (1, "q"))), limit), ())
            self.assertIsNone(nearest(program, ("deadlock", ((0, "q"),)), limit))
            self.assertIsNone(nearest(program, ("failure", 0, 0, "check"), limit))

    def test_the_limit(self):
        self.assertEqual(nearest(CROSSED, STUCK, 2), (0, 1))
        self.assertIsNone(nearest(CROSSED, STUCK, 1))
        self.assertIsNone(nearest(CROSSED, STUCK, 0))
        program = build("let a = a + 1; check a < 13; go 0")
        self.assertEqual(nearest(program, ("failure", 0, 1, "check"), 38), (0,) * 38)
        self.assertIsNone(nearest(program, ("failure", 0, 1, "check"), 37))

    def test_places_to_which_no_schedule_leads(self):
        for place in (("failure", 0, 0, "check"), ("failure", 0, 99, "check"), ("failure", 7, 0, "range"),
                      ("deadlock", ((0, "m"), (1, "n"))), ("deadlock", ((0, "n"),)), ("deadlock", ()),
                      ("failure", -1, -1, "owner")):
            self.assertIsNone(nearest(CROSSED, place, 40), place)
        self.assertIsNone(nearest(build("stop"), ("deadlock", ()), 40))

    def test_a_program_without_an_end(self):
        program = build("add x 1; add x -1; go 0", "add x 1; add x -1; go 0")
        self.assertIsNone(nearest(program, ("failure", 0, 0, "range"), 40))

    def test_many_states(self):
        # Far too many schedules to try each of them.
        lines = "; ".join(["add x 1"] * 9)
        program = build(lines, lines, lines + "; get a x; check a < 27", things="var x = 0\n")
        self.assertEqual(nearest(program, ("failure", 2, 10, "check"), 40), (0,) * 9 + (1,) * 9 + (2,) * 11)

    def test_each_program(self):
        found = []
        for program in PROGRAMS + BLOCK_PROGRAMS:
            for place in all_places(program, LIMIT):
                for limit in (2, LIMIT):
                    told = nearest(program, place, limit)
                    self.assertEqual(told, nearest_by_trying(program, place, limit), place)
                    found.append(told)
        self.assertGreater(len([told for told in found if told and switches_of(told) > 1]), 10)
        self.assertGreater(found.count(None), 100)


if __name__ == "__main__":
    unittest.main()
