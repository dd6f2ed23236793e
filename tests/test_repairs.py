"""[r3], [r4]: safe programs, and least repairs."""

import unittest
from itertools import product

from everyturn.errors import NoSuchPlace, TooMany, TurnError
from everyturn.exploring import tried
from everyturn.guarding import guarded
from everyturn.repairs import is_safe, least_repairs
from helper import GUARDED_PROGRAMS, LIMIT, PROGRAMS, build, complete, faults_by_trying, spans_by_trying

MOST = 3000
ADDS = build("get a x; put x a + 1", "add x 1", things="var x = 0\n")
LOCKED = build("lock m; get a x; put x a + 1; unlock m", "lock m; add x 1; unlock m", things="var x = 0\nlock m\n")


def many_tried(program, limit):
    return len(tried(program, limit, MOST))


def safe_by_trying(program, limit):
    """[r3]: whether no execution at all has a failure, a deadlock or a race."""
    return not any(fault[0] in ("failure", "deadlock", "race") for schedule, steps, state in complete(program, limit)
                   for fault in faults_by_trying(program, schedule, steps, state))


def repairs_by_trying(program, variable, name, limit):
    """[r4]: the least repairs, from all guards for a variable and all their executions."""
    choices = [[None] + spans_by_trying(program, thread, variable) for thread in range(len(program[1]))]
    safe = [guards for guards in product(*choices) if safe_by_trying(guarded(program, guards, name), limit)]
    found = [guards for guards in safe if [other for other in safe if within(other, guards)] == [guards]]
    return sorted(found, key=lambda guards: (sum(len(places(span)) for span in guards),
                                             [span or (-1, -1) for span in guards]))


def places(span):
    return [] if span is None else list(range(span[0], span[1] + 1))


def within(guards, other):
    return all(set(places(span)) <= set(places(wide)) for span, wide in zip(guards, other))


class IsSafeTest(unittest.TestCase):
    def test_a_safe_program(self):
        self.assertIs(is_safe(LOCKED, 40, MOST), True)
        self.assertIs(is_safe(build("let a = 1", "add x 1", "add x 1"), 40, MOST), True)

    def test_a_failure(self):
        self.assertIs(is_safe(build("check 0"), 40, MOST), False)
        self.assertIs(is_safe(build("let a = 1; add x 98"), 40, MOST), False)

    def test_a_deadlock(self):
        self.assertIs(is_safe(build("lock m; lock n", "lock n; lock m"), 40, MOST), False)
        self.assertIs(is_safe(build("take a q"), 0, MOST), False)

    def test_a_race(self):
        self.assertIs(is_safe(ADDS, 40, MOST), False)
        self.assertIs(is_safe(build("get a x", "put x 1"), 40, MOST), False)

    def test_faults_that_are_no_harm(self):
        # A lost notice is a fault, but a deadlock of its own; a broken block may stand alone.
        program = build("begin; add x 1; add x 1; end", "add x 1")
        self.assertIs(is_safe(program, 40, MOST), True)

    def test_the_limit_of_steps(self):
        program = build("let a = 1; let a = 2; check 0")
        self.assertIs(is_safe(program, 2, MOST), True)
        self.assertIs(is_safe(program, 3, MOST), False)
        self.assertIs(is_safe(build("go 0", "add x 1"), 8, MOST), True)
        self.assertIs(is_safe(ADDS, 1, MOST), True)

    def test_too_many(self):
        many = many_tried(LOCKED, 40)
        self.assertIs(is_safe(LOCKED, 40, many), True)
        for program in (LOCKED, build("check 0", "add x 1; go 0", "add x 1; go 0")):
            with self.assertRaises(TooMany) as caught:
                is_safe(program, 40, many - 1)
            self.assertEqual(caught.exception.limit, many - 1)
            self.assertIsInstance(caught.exception, TurnError)

    def test_each_program(self):
        found = []
        for program in PROGRAMS[::2] + GUARDED_PROGRAMS:
            for limit in (2, LIMIT):
                found.append(is_safe(program, limit, MOST))
                self.assertIs(found[-1], safe_by_trying(program, limit))
        self.assertGreater(found.count(True), 20)
        self.assertGreater(found.count(False), 20)


class LeastRepairsTest(unittest.TestCase):
    def test_the_whole_addition(self):
        self.assertEqual(least_repairs(ADDS, "x", "guard", 40, 1000), [((0, 1), (0, 0))])

    def test_a_program_that_is_safe(self):
        self.assertEqual(least_repairs(LOCKED, "x", "g", 40, MOST), [(None, None)])
        self.assertEqual(least_repairs(build("stop", things="var x = 0\n"), "x", "g", 40, MOST), [(None,)])

    def test_a_program_that_no_guards_repair(self):
        for one, other in (("lock m; lock n", "lock n; lock m"), ("put x 1; check 0", "get a x")):
            program = build(one, other, things="var x = 0\nlock m\nlock n\n")
            self.assertEqual(least_repairs(program, "x", "g", 40, MOST), [])
        # The race is on another variable.
        program = build("put y 1", "get a y; put x 1", things="var x = 0\nvar y = 0\n")
        self.assertEqual(least_repairs(program, "x", "g", 40, MOST), [])
        self.assertEqual(least_repairs(program, "y", "g", 40, MOST), [((0, 0), (0, 0))])

    def test_a_race_that_one_step_at_a_time_repairs(self):
        program = build("put x 1", "get a x", "get b x", things="var x = 0\n")
        self.assertEqual(least_repairs(program, "x", "g", 40, MOST), [((0, 0), (0, 0), (0, 0))])

    def test_a_failure_that_a_longer_span_repairs(self):
        program = build("put x 1; put x 0", "get a x; check a < 1", things="var x = 0\n")
        self.assertEqual(least_repairs(program, "x", "g", 40, MOST), [((0, 1), (0, 0))])

    def test_races_and_failures_that_need_spans_of_other_lengths(self):
        for one, other, expected in (("let b = 1; get a x", "put x 1; let b = 1; let b = 2; put x 1", ((1, 1), (0, 3))),
                                     ("add x 1; add x 1; check 1", "get a x; get b x; check a = b", ((0, 1), (0, 1))),
                                     ("put x 1; put x 2", "add x 1; get a x; get b x; check a = b", ((0, 1), (0, 2)))):
            program = build(one, other, things="var x = 0\n")
            self.assertEqual(least_repairs(program, "x", "g", 40, MOST), [expected])

    def test_several_repairs_by_their_costs_and_then_as_tuples(self):
        # Within six steps, a lock at either place keeps the race from being reached.
        things = "var x = 0\nvar y = 2\n"
        program = build("get a x; get a x; put x a + 1", "check a < 2; get b y; put y b; add x 1", things=things)
        self.assertEqual(least_repairs(program, "y", "g", 6, MOST), [(None, (1, 1)), (None, (2, 2))])

    def test_guards_of_one_thread_do_not_keep_others_away(self):
        program = build("get a x; put x a + 1", "get a x; put x a + 1", things="var x = 0\n")
        self.assertEqual(least_repairs(program, "x", "g", 40, MOST), [((0, 1), (0, 1))])

    def test_spans_that_cannot_be_guarded(self):
        program = build("get a x; put x a + 1; go 1 if a = 1; stop", "add x 1", things="var x = 0\n")
        self.assertEqual(least_repairs(program, "x", "g", 40, MOST), [])

    def test_the_limit_of_steps(self):
        self.assertEqual(least_repairs(ADDS, "x", "g", 1, MOST), [(None, None)])
        self.assertEqual(least_repairs(ADDS, "x", "g", 0, MOST), [(None, None)])

    def test_the_list_is_new(self):
        least_repairs(ADDS, "x", "g", 40, MOST).clear()
        self.assertEqual(least_repairs(ADDS, "x", "g", 40, MOST), [((0, 1), (0, 0))])

    def test_each_program(self):
        found = []
        for program in GUARDED_PROGRAMS:
            for variable in ("x", "y"):
                told = least_repairs(program, variable, "g", LIMIT, MOST)
                self.assertEqual(told, repairs_by_trying(program, variable, "g", LIMIT))
                found.append(len([guards for guards in told if set(guards) != {None}]))
        self.assertGreater(len([many for many in found if many > 0]), 10)
        self.assertGreater(len([many for many in found if many > 1]), 1)


class RefusedTest(unittest.TestCase):
    def assert_word(self, word, program, variable, name, most=MOST):
        with self.assertRaises(NoSuchPlace) as caught:
            least_repairs(program, variable, name, 40, most)
        self.assertEqual(caught.exception.word, word)
        self.assertIsInstance(caught.exception, TurnError)

    def test_a_variable_that_there_is_not(self):
        for variable in ("z", "m", "g", "", "a"):
            self.assert_word("variable", LOCKED, variable, "g")

    def test_a_name_for_the_lock(self):
        for name in ("", "a", "put", "x", "m", "Guard", "ninechars"):
            self.assert_word("name", LOCKED, "x", name)

    def test_six_shared_things(self):
        self.assert_word("shared", build("put x 1"), "x", "g")
        self.assert_word("shared", build("let a = 1"), "x", "g")

    def test_the_order_of_words(self):
        self.assert_word("variable", build("put x 1"), "m", "m", 1)
        self.assert_word("name", build("put x 1"), "x", "m", 1)
        self.assert_word("shared", build("put x 1"), "x", "g", 1)

    def test_a_thread_with_too_many_instructions(self):
        long = "; ".join(["let a = 1"] * 10 + ["get a x"])
        program = build(long, "put x 1", things="var x = 0\n")
        self.assert_word("many", program, "x", "g")
        # Of guards that cost 1, those with a span for the last thread alone are tried first.
        self.assert_word("many", build("put x 1", long, things="var x = 0\n"), "x", "g")

    def test_a_long_thread_that_is_safe(self):
        program = build("; ".join(["add x 1"] * 12), "add x 1", things="var x = 0\n")
        self.assertEqual(least_repairs(program, "x", "g", 40, MOST), [(None, None)])

    def test_a_repair_inside_keeps_long_threads_from_being_tried(self):
        program = build("; ".join(["let a = 1"] * 10 + ["get a x"]), "get a x", things="var x = 0\n")
        self.assertEqual(least_repairs(program, "x", "g", 40, MOST), [(None, None)])

    def test_errors_in_the_order_of_guards(self):
        # The first guards have too many schedules; with a higher limit, the second ones have too many instructions.
        program = build("put x 1", "; ".join(["let a = 1"] * 10 + ["get a x"]), things="var x = 0\n")
        many = many_tried(guarded(program, (None, None), "g"), 40)
        with self.assertRaises(TooMany):
            least_repairs(program, "x", "g", 40, many - 1)
        self.assert_word("many", program, "x", "g", many)
        # The other way round, ((0, 0), None) is tried behind (None, (0, 0)), which is too long.
        program = build("; ".join(["let a = 1"] * 10 + ["get a x"]), "put x 1", things="var x = 0\n")
        free, locked = [many_tried(guarded(program, guards, "g"), 40) for guards in ((None, None), (None, (0, 0)))]
        self.assertLess(free, locked)
        with self.assertRaises(TooMany) as caught:
            least_repairs(program, "x", "g", 40, locked - 1)
        self.assertEqual(caught.exception.limit, locked - 1)
        self.assert_word("many", program, "x", "g", locked)

    def test_too_many(self):
        sizes = [many_tried(guarded(ADDS, guards, "g"), 40) for guards in product((None, (0, 0), (1, 1), (0, 1)),
                                                                                  (None, (0, 0)))]
        self.assertEqual(least_repairs(ADDS, "x", "g", 40, max(sizes)), [((0, 1), (0, 0))])
        for most in (max(sizes) - 1, sizes[0] - 1, 1):
            with self.assertRaises(TooMany) as caught:
                least_repairs(ADDS, "x", "g", 40, most)
            self.assertEqual(caught.exception.limit, most)
            self.assertIsInstance(caught.exception, TurnError)


if __name__ == "__main__":
    unittest.main()
