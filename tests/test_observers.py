"""[w1] to [w3]: outcomes, histories, and programs that are alike."""

import unittest

from everyturn.errors import NoSuchPlace, NotEnabled, TooMany, TurnError
from everyturn.exploring import tried
from everyturn.machine import enabled, first_state, make_step
from everyturn.observers import difference, histories, history, outcome, outcomes
from helper import LIMIT, PROGRAMS, build, class_of, complete, possible, schedule_of

MOST = 3000
ADDS = build("get a x; put x a + 1", "add x 1", things="var x = 0\n")
ENDS = {("over", None): "over", ("over", "check"): "check", ("over", "range"): "range", ("over", "owner"): "owner"}


class OutcomeTest(unittest.TestCase):
    def test_values_in_order(self):
        program = build("put y 3; put x 4")
        self.assertEqual(outcome(program, (0, 0)), ((4, 3), ("over",)))
        self.assertEqual(outcome(build("stop", things=""), (0,)), ((), ("over",)))

    def test_each_end(self):
        program = build("stop", "check 0", "unlock m", "take a q")
        self.assertEqual(outcome(program, (0, 1, 2)), ((2, -7), ("over", "check", "owner", "blocked")))
        program = build("let a = 99 + 1", "lock m; wait w", "lock m; unlock m; let a = 1", "stop")
        self.assertEqual(outcome(program, (2, 2, 2, 0, 1, 1, 3)), ((2, -7), ("range", "blocked", "over", "over")))

    def test_a_thread_that_is_woken_is_blocked(self):
        program = build("lock m; wait w", "lock m; notify w")
        self.assertEqual(outcome(program, (0, 0, 1, 1)), ((2, -7), ("blocked", "over")))

    def test_a_last_state_that_is_not_final(self):
        self.assertIsNone(outcome(ADDS, ()))
        self.assertIsNone(outcome(ADDS, (0, 1)))
        self.assertIsNone(outcome(ADDS, (0, 0)))
        self.assertEqual(outcome(ADDS, (0, 0, 1)), ((2,), ("over", "over")))

    def test_a_final_first_state(self):
        self.assertEqual(outcome(build("take a q"), ()), ((2, -7), ("blocked",)))

    def test_a_schedule_that_is_not_possible(self):
        for schedule, at in (((0, 0, 0), 2), ((2,), 0), ((1, 0, 1), 2)):
            with self.assertRaises(NotEnabled) as caught:
                outcome(ADDS, schedule)
            self.assertEqual(caught.exception.at, at)
            self.assertIsInstance(caught.exception, TurnError)

    def test_each_schedule(self):
        for program in PROGRAMS[::3]:
            for schedule, _, state in possible(program, LIMIT)[::3]:
                self.assertEqual(outcome(program, schedule), outcome_by_words(program, state))


def outcome_by_words(program, state):
    if enabled(program, state):
        return None
    return state[0], tuple(ENDS.get((mode, word), "blocked") for _, _, mode, word in state[4])


class OutcomesTest(unittest.TestCase):
    def test_each_once_with_its_first_schedule(self):
        self.assertEqual(outcomes(ADDS, 40, 100),
                         [(((1,), ("over", "over")), (0, 1, 0)), (((2,), ("over", "over")), (0, 0, 1))])

    def test_rising_values_and_ends(self):
        program = build("put x -1", "put x 3", "get a x; check a < 3", things="var x = 0\n")
        self.assertEqual([entry[0] for entry in outcomes(program, 40, MOST)],
                         [((-1,), ("over", "over", "check")), ((-1,), ("over", "over", "over")),
                          ((3,), ("over", "over", "check")), ((3,), ("over", "over", "over"))])

    def test_the_limit_of_steps(self):
        self.assertEqual(outcomes(ADDS, 2, MOST), [])
        self.assertEqual(len(outcomes(ADDS, 3, MOST)), 2)
        self.assertEqual(outcomes(build("take a q"), 0, MOST), [(((2, -7), ("blocked",)), ())])
        self.assertEqual(outcomes(build("go 0"), 40, MOST), [])

    def test_a_program_that_does_not_always_end(self):
        program = build("get a x; go 0 if a = 0", "put x 1", things="var x = 0\n")
        self.assertEqual(outcomes(program, 3, MOST), [(((1,), ("over", "over")), (1, 0, 0))])
        self.assertEqual(outcomes(program, 6, MOST), [(((1,), ("over", "over")), (0, 0, 1, 0, 0))])

    def test_a_limit_of_tried_schedules(self):
        many = len(tried(ADDS, 40, MOST))
        self.assertEqual(len(outcomes(ADDS, 40, many)), 2)
        with self.assertRaises(TooMany) as caught:
            outcomes(ADDS, 40, many - 1)
        self.assertEqual(caught.exception.limit, many - 1)
        self.assertIsInstance(caught.exception, TurnError)

    def test_the_list_is_new(self):
        outcomes(ADDS, 40, MOST).clear()
        self.assertEqual(len(outcomes(ADDS, 40, MOST)), 2)

    def test_each_program(self):
        for program in PROGRAMS:
            for limit in (2, LIMIT):
                self.assertEqual(outcomes(program, limit, MOST), outcomes_by_trying(program, limit))


def outcomes_by_trying(program, limit):
    """The outcomes of a program, from all its executions and their classes."""
    found = {}
    for _, steps, state in complete(program, limit):
        seen = outcome_by_words(program, state)
        if seen is not None:
            found.setdefault(seen, []).append(schedule_of(class_of(steps)[0]))
    return [(seen, min(found[seen])) for seen in sorted(found)]


class HistoryTest(unittest.TestCase):
    def test_no_step(self):
        self.assertEqual(history(ADDS, (), "x"), (0,))
        self.assertEqual(history(build("stop"), (), "y"), (-7,))

    def test_each_step_that_writes(self):
        program = build("put x 5; add x -3; get a x; put x a + 1; let a = 7; put x a")
        self.assertEqual(history(program, (0,) * 6, "x"), (2, 5, 2, 3, 7))
        self.assertEqual(history(program, (0,) * 3, "x"), (2, 5, 2))
        self.assertEqual(history(program, (0,) * 6, "y"), (-7,))

    def test_a_value_that_is_the_same_as_before(self):
        self.assertEqual(history(build("put x 2; add x 0; put x 2"), (0, 0, 0), "x"), (2, 2, 2, 2))

    def test_a_step_that_fails_writes_nothing(self):
        self.assertEqual(history(build("add x 98", "put x 99 + 1", "add x 99 + 1"), (0, 1, 2), "x"), (2,))
        self.assertEqual(history(build("add x 98", "add x 1"), (1, 0), "x"), (2, 3))

    def test_several_threads_and_variables(self):
        program = build("put x 1; put y 1", "put y 2; put x 2", "get a x; get b y")
        self.assertEqual(history(program, (0, 1, 2, 1, 0, 2), "x"), (2, 1, 2))
        self.assertEqual(history(program, (0, 1, 2, 1, 0, 2), "y"), (-7, 2, 1))

    def test_locks_and_queues_are_no_values(self):
        program = build("lock m; send q 5; unlock m; put x 3")
        self.assertEqual(history(program, (0, 0, 0, 0), "x"), (2, 3))

    def test_a_name_that_is_no_variable(self):
        for name in ("z", "m", "w", "q", "a", "", "X"):
            with self.assertRaises(NoSuchPlace) as caught:
                history(build("stop"), (0,), name)
            self.assertEqual(caught.exception.word, "name")
            self.assertIsInstance(caught.exception, TurnError)

    def test_a_schedule_that_is_not_possible(self):
        with self.assertRaises(NotEnabled) as caught:
            history(ADDS, (0, 0, 0), "x")
        self.assertEqual(caught.exception.at, 2)

    def test_the_name_is_looked_at_first(self):
        with self.assertRaises(NoSuchPlace):
            history(ADDS, (7,), "y")

    def test_each_schedule(self):
        for program in PROGRAMS[::2]:
            for name in [thing[1] for thing in program[0] if thing[0] == "var"]:
                for schedule, _, _ in possible(program, LIMIT)[::9]:
                    self.assertEqual(history(program, schedule, name), history_by_words(program, schedule, name))

    def test_equivalent_executions_have_the_same(self):
        for program in PROGRAMS[::4]:
            for schedule, steps, _ in complete(program, LIMIT)[::9] if program[0] else []:
                for other in class_of(steps):
                    self.assertEqual(history(program, schedule_of(other), "x"), history(program, schedule, "x"))


def history_by_words(program, schedule, name):
    variables = [thing[1] for thing in program[0] if thing[0] == "var"]
    state = first_state(program)
    values = [state[0][variables.index(name)]]
    for thread in schedule:
        instruction = program[1][thread][state[4][thread][0]]
        state = make_step(program, state, thread)[0]
        if instruction[0] in ("put", "add") and instruction[1] == name and state[4][thread][3] is None:
            values.append(state[0][variables.index(name)])
    return tuple(values)


class HistoriesTest(unittest.TestCase):
    def test_each_once_and_rising(self):
        self.assertEqual(histories(ADDS, "x", 40, MOST), [(0, 1, 1), (0, 1, 2)])
        program = build("put x 1", "put x 2", "get a x")
        self.assertEqual(histories(program, "x", 40, MOST), [(2, 1, 2), (2, 2, 1)])
        self.assertEqual(histories(program, "y", 40, MOST), [(-7,)])

    def test_histories_of_other_lengths(self):
        program = build("get a x; check a = 2; put x 2; put x 9", "put x 3")
        self.assertEqual(histories(program, "x", 40, MOST), [(2, 2, 3, 9), (2, 2, 9, 3), (2, 3), (2, 3, 2, 9)])

    def test_executions_that_the_limit_ends(self):
        program = build("add x 1; go 0")
        self.assertEqual(histories(program, "x", 4, MOST), [(2, 3, 4)])
        self.assertEqual(histories(program, "x", 0, MOST), [(2,)])
        self.assertEqual(histories(build("add x 1", "add x 2"), "x", 1, MOST), [(2, 3), (2, 4)])

    def test_errors_and_their_order(self):
        many = len(tried(ADDS, 40, MOST))
        self.assertEqual(len(histories(ADDS, "x", 40, many)), 2)
        with self.assertRaises(TooMany) as caught:
            histories(ADDS, "x", 40, many - 1)
        self.assertEqual(caught.exception.limit, many - 1)
        for most in (1, many):
            with self.assertRaises(NoSuchPlace) as caught:
                histories(ADDS, "y", 40, most)
            self.assertEqual(caught.exception.word, "name")

    def test_the_list_is_new(self):
        histories(ADDS, "x", 40, MOST).clear()
        self.assertEqual(len(histories(ADDS, "x", 40, MOST)), 2)

    def test_each_program(self):
        for program in PROGRAMS:
            for name in [thing[1] for thing in program[0] if thing[0] == "var"]:
                for limit in (3, LIMIT):
                    expected = {history_by_words(program, entry[0], name) for entry in complete(program, limit)}
                    self.assertEqual(histories(program, name, limit, MOST), sorted(expected))


class DifferenceTest(unittest.TestCase):
    def test_a_program_and_itself(self):
        self.assertIsNone(difference(ADDS, ADDS, 40, MOST))

    def test_programs_that_are_alike_with_other_schedules(self):
        one = build("add x 1; add x 1", "add x 1", things="var x = 0\n")
        other = build("add x 2", "let a = 1; let a = 1; add x a", things="var x = 0\n")
        self.assertNotEqual(outcomes(one, 40, MOST), outcomes(other, 40, MOST))
        self.assertIsNone(difference(one, other, 40, MOST))

    def test_an_outcome_of_one_program_alone(self):
        locked = build("lock m; get a x; put x a + 1; unlock m", "lock m; add x 1; unlock m",
                       things="var x = 0\nlock m\n")
        self.assertEqual(difference(ADDS, locked, 40, MOST), (1, ((1,), ("over", "over")), (0, 1, 0)))
        self.assertEqual(difference(locked, ADDS, 40, MOST), (2, ((1,), ("over", "over")), (0, 1, 0)))

    def test_the_first_outcome_in_rising_order(self):
        one = build("put x 5", "put x 1", things="var x = 0\n")
        other = build("put x 3", "put x 4", things="var x = 0\n")
        self.assertEqual(difference(one, other, 40, MOST), (1, ((1,), ("over", "over")), (0, 1)))
        self.assertEqual(difference(other, one, 40, MOST), (2, ((1,), ("over", "over")), (0, 1)))
        other = build("put x 0", "put x 1", things="var x = 0\n")
        self.assertEqual(difference(one, other, 40, MOST), (2, ((0,), ("over", "over")), (1, 0)))

    def test_programs_of_other_things_and_threads(self):
        one = build("stop", things="var x = 1\n")
        self.assertEqual(difference(one, build("stop", things="var x = 1\nvar y = 1\n"), 40, MOST),
                         (1, ((1,), ("over",)), (0,)))
        self.assertEqual(difference(one, build("stop", "stop", things="var x = 1\n"), 40, MOST),
                         (1, ((1,), ("over",)), (0,)))
        # The names are no part of an outcome.
        self.assertIsNone(difference(one, build("let b = 1", things="var z = 1\nlock m\n"), 40, MOST))

    def test_ends_alone(self):
        one, other = build("check 0"), build("check 1")
        self.assertEqual(difference(one, other, 40, MOST), (1, ((2, -7), ("check",)), (0,)))
        self.assertEqual(difference(other, build("take a q"), 40, MOST), (2, ((2, -7), ("blocked",)), ()))

    def test_no_outcomes(self):
        endless = build("go 0")
        self.assertIsNone(difference(endless, endless, 40, MOST))
        self.assertEqual(difference(endless, build("stop"), 40, MOST), (2, ((2, -7), ("over",)), (0,)))
        self.assertIsNone(difference(endless, build("stop"), 0, MOST))

    def test_too_many(self):
        large = build("add x 1; go 0", "add x 1; go 0")
        many = len(tried(ADDS, 40, MOST))
        self.assertIsNone(difference(ADDS, ADDS, 40, many))
        for one, other in ((ADDS, large), (large, ADDS), (ADDS, ADDS)):
            with self.assertRaises(TooMany) as caught:
                difference(one, other, 40, many - 1)
            self.assertEqual(caught.exception.limit, many - 1)

    def test_pairs_of_programs(self):
        found = []
        for at, one in enumerate(PROGRAMS[:60]):
            for other in PROGRAMS[at + 1:at + 4]:
                told = difference(one, other, LIMIT, MOST)
                self.assertEqual(told, difference_by_trying(one, other, LIMIT))
                found.append(told if told is None else told[0])
        for which in (None, 1, 2):
            self.assertIn(which, found)


def difference_by_trying(one, other, limit):
    sides = {1: dict(outcomes_by_trying(one, limit)), 2: dict(outcomes_by_trying(other, limit))}
    for seen in sorted({**sides[1], **sides[2]}):
        if (seen in sides[1]) != (seen in sides[2]):
            which = 1 if seen in sides[1] else 2
            return which, seen, sides[which][seen]
    return None


if __name__ == "__main__":
    unittest.main()
