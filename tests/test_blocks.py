"""[b1]: blocks, and the steps that break them."""

import unittest

from everyturn.blocks import block_steps, broken_blocks
from everyturn.exploring import executions
from everyturn.schedules import run
from helper import (BLOCK_PROGRAMS, LIMIT, PROGRAMS, act, blocks_by_trying, broken_by_trying, build, class_of, complete,
                    possible)

MOVE = "begin; get a x; put x a + 1; end"


def blocks_of(program, schedule):
    return block_steps(program, run(program, schedule)[1])


def broken_of(program, schedule):
    return broken_blocks(program, run(program, schedule)[1])


class BlockStepsTest(unittest.TestCase):
    def test_empty_row(self):
        self.assertEqual(block_steps(build(MOVE), ()), [])

    def test_no_block(self):
        self.assertEqual(blocks_of(build("get a x; put x a", "stop"), (0, 1, 0)), [])

    def test_a_whole_block(self):
        self.assertEqual(blocks_of(build(MOVE), (0, 0, 0, 0)), [(0, 1, 2, 3)])
        self.assertEqual(blocks_of(build("let a = 1; " + MOVE + "; let a = 2"), (0,) * 6), [(1, 2, 3, 4)])
        self.assertEqual(blocks_of(build("begin; end"), (0, 0)), [(0, 1)])

    def test_steps_of_other_threads_are_left_out(self):
        program = build(MOVE, "add x 1; add x 1")
        self.assertEqual(blocks_of(program, (0, 1, 0, 0, 1, 0)), [(0, 2, 3, 5)])
        self.assertEqual(blocks_of(program, (1, 0, 0, 0, 0, 1)), [(1, 2, 3, 4)])

    def test_a_block_without_an_end_in_the_execution(self):
        program = build(MOVE, "add x 1; add x 1")
        self.assertEqual(blocks_of(program, (0,)), [(0,)])
        self.assertEqual(blocks_of(program, (1, 0, 1)), [(1,)])
        self.assertEqual(blocks_of(program, (0, 1, 0, 1)), [(0, 2)])
        self.assertEqual(blocks_of(program, (0, 1, 0, 1, 0)), [(0, 2, 4)])

    def test_a_block_that_fails_or_stops_or_is_blocked(self):
        self.assertEqual(blocks_of(build("begin; check 0; end", "let a = 1"), (0, 0, 1)), [(0, 1)])
        self.assertEqual(blocks_of(build("begin; stop; end", "let a = 1"), (0, 0, 1)), [(0, 1)])
        self.assertEqual(blocks_of(build("begin; take a q; end", "let a = 1"), (0, 1)), [(0,)])

    def test_a_woken_thread_in_its_block(self):
        program = build("begin; lock m; wait w; unlock m; end", "notify w")
        self.assertEqual(blocks_of(program, (0, 0, 0, 1, 0, 0, 0)), [(0, 1, 2, 4, 5, 6)])

    def test_steps_behind_a_block(self):
        self.assertEqual(blocks_of(build("begin; end; add x 1; add x 1", "add x 1"), (0, 0, 0, 1, 0)), [(0, 1)])

    def test_several_blocks_in_one_thread(self):
        program = build("begin; end; add x 1; begin; add x 1; end")
        self.assertEqual(blocks_of(program, (0,) * 6), [(0, 1), (3, 4, 5)])
        self.assertEqual(blocks_of(program, (0,) * 5), [(0, 1), (3, 4)])
        self.assertEqual(blocks_of(program, (0,) * 3), [(0, 1)])

    def test_blocks_of_several_threads_by_their_first_indexes(self):
        program = build("begin; add x 1; end", "begin; add x 1; end; begin; end")
        self.assertEqual(blocks_of(program, (1, 0, 1, 0, 1, 1, 0, 1)), [(0, 2, 4), (1, 3, 6), (5, 7)])
        self.assertEqual(blocks_of(program, (0, 0, 1, 1, 0, 1, 1, 1)), [(0, 1, 4), (2, 3, 5), (6, 7)])

    def test_a_block_that_is_done_again(self):
        program = build("begin; let a = a + 1; end; go 0 if a < 2")
        self.assertEqual(blocks_of(program, (0,) * 8), [(0, 1, 2), (4, 5, 6)])

    def test_a_go_into_a_block_begins_none(self):
        self.assertEqual(blocks_of(build("go 2; begin; add x 1; end; stop"), (0,) * 4), [])
        # The one end is that of the block that began before.
        program = build("begin; go 4; end; begin; add x 1; end; add x 1")
        self.assertEqual(blocks_of(program, (0,) * 5), [(0, 1, 2, 3)])

    def test_a_go_out_of_a_block_does_not_end_it(self):
        program = build("begin; go 3; end; add x 1; add x 1")
        self.assertEqual(blocks_of(program, (0,) * 4), [(0, 1, 2, 3)])
        program = build("begin; go 3; end; begin; add x 1; end; add x 1")
        self.assertEqual(blocks_of(program, (0,) * 6), [(0, 1, 2, 3, 4), (2, 3, 4)])

    def test_a_go_back_to_the_begin(self):
        program = build("begin; let a = a + 1; go 0 if a < 2; end")
        self.assertEqual(blocks_of(program, (0,) * 7), [(0, 1, 2, 3, 4, 5, 6), (3, 4, 5, 6)])

    def test_the_list_is_new(self):
        program = build(MOVE)
        blocks_of(program, (0,)).clear()
        self.assertEqual(blocks_of(program, (0,)), [(0,)])

    def test_each_row(self):
        for program in BLOCK_PROGRAMS:
            for _, steps, _ in possible(program, LIMIT):
                self.assertEqual(block_steps(program, steps), blocks_by_trying(program, steps))


class BrokenBlocksTest(unittest.TestCase):
    def test_without_blocks(self):
        self.assertEqual(broken_blocks(build(MOVE), ()), [])
        self.assertEqual(broken_of(build("get a x; put x a", "add x 1"), (0, 1, 0)), [])

    def test_a_step_that_breaks_a_block(self):
        program = build(MOVE, "let a = 1; add x 1")
        self.assertEqual(broken_of(program, (0, 1, 0, 1, 0, 0)), [("broken", 0, 0, 1, 1)])
        program = build("let a = 1; add x 1", "let a = 1; " + MOVE)
        self.assertEqual(broken_of(program, (1, 1, 1, 0, 0, 1, 1)), [("broken", 1, 1, 0, 1)])

    def test_a_step_ahead_of_a_block_or_behind_it(self):
        program = build(MOVE, "add x 1")
        self.assertEqual(broken_of(program, (1, 0, 0, 0, 0)), [])
        self.assertEqual(broken_of(program, (0, 0, 0, 0, 1)), [])

    def test_a_step_that_can_be_moved_out_of_a_block(self):
        program = build(MOVE, "add x 1")
        # Nothing of the block uses x before the step of the other thread, or nothing behind it.
        self.assertEqual(broken_of(program, (0, 1, 0, 0, 0)), [])
        self.assertEqual(broken_of(program, (0, 0, 0, 1, 0)), [])
        self.assertEqual(broken_of(program, (0, 0, 1, 0, 0)), [("broken", 0, 0, 1, 0)])

    def test_an_independent_step(self):
        program = build(MOVE, "add y 1; get a x")
        self.assertEqual(broken_of(program, (0, 0, 1, 0, 0)), [])
        self.assertEqual(broken_of(program, (0, 0, 1, 1, 0, 0)), [])
        self.assertEqual(broken_of(build("begin; get a x; get b x; end", "get a x"), (0, 0, 1, 0, 0)), [])

    def test_a_block_without_an_end_in_the_execution(self):
        program = build(MOVE, "add x 1")
        self.assertEqual(broken_of(program, (0, 0, 1)), [])
        self.assertEqual(broken_of(program, (0, 0, 1, 0)), [("broken", 0, 0, 1, 0)])

    def test_steps_behind_a_block(self):
        program = build(MOVE + "; add x 1", "add x 1")
        self.assertEqual(broken_of(program, (0, 0, 0, 0, 1, 0)), [])
        self.assertEqual(broken_of(program, (0, 0, 0, 1, 0, 0)), [])

    def test_steps_ahead_of_a_block(self):
        program = build("add x 1; " + MOVE, "add x 1")
        self.assertEqual(broken_of(program, (0, 1, 0, 0, 0, 0)), [])

    def test_several_steps_by_their_indexes(self):
        program = build("begin; put x 1; put y 1; put x 2; end", "add x 1; get a x", "add y 1; get a x")
        self.assertEqual(broken_of(program, (0, 0, 2, 1, 2, 1, 0, 0, 0)),
                         [("broken", 0, 0, 1, 0), ("broken", 0, 0, 2, 1), ("broken", 0, 0, 1, 1)])
        # Here the first step of thread 2 is behind a step of the block, and before its last one on x, too.
        self.assertEqual(broken_of(program, (0, 0, 0, 2, 1, 2, 0, 0, 1)),
                         [("broken", 0, 0, 2, 0), ("broken", 0, 0, 1, 0), ("broken", 0, 0, 2, 1)])

    def test_a_step_that_breaks_by_a_third_thread(self):
        # The step of thread 1 is behind the block's first one by thread 2, and before its last one by y.
        program = build("begin; put x 1; get a y; end", "take a q; put y 1", "get a x; send q 1")
        self.assertEqual(broken_of(program, (0, 0, 2, 2, 1, 1, 0, 0)),
                         [("broken", 0, 0, 2, 0), ("broken", 0, 0, 2, 1), ("broken", 0, 0, 1, 0),
                          ("broken", 0, 0, 1, 1)])
        self.assertEqual(broken_of(program, (0, 2, 2, 1, 1, 0, 0, 0)), [])

    def test_by_the_blocks(self):
        program = build("begin; get a x; put x 1; end; begin; get a x; put x 1; end", "add x 1; add x 1; add x 1")
        self.assertEqual(broken_of(program, (0, 0, 1, 0, 0, 0, 0, 1, 1, 0, 0)),
                         [("broken", 0, 0, 1, 0), ("broken", 0, 4, 1, 1), ("broken", 0, 4, 1, 2)])

    def test_two_blocks_that_break_one_another(self):
        program = build("begin; put x 1; put x 2; end", "begin; put x 3; put x 4; end")
        self.assertEqual(broken_of(program, (1, 0, 0, 1, 0, 1, 0, 1)),
                         [("broken", 1, 0, 0, 2), ("broken", 0, 0, 1, 1)])
        self.assertEqual(broken_of(program, (0, 1, 1, 0, 1, 0, 1, 0)),
                         [("broken", 0, 0, 1, 2), ("broken", 1, 0, 0, 1)])

    def test_steps_that_are_made_several_times_are_told_for_each(self):
        program = build("begin; put x 1; put x 2; end", "add x 1; go 0")
        self.assertEqual(broken_of(program, (0, 0, 1, 1, 1, 0, 0)),
                         [("broken", 0, 0, 1, 0), ("broken", 0, 0, 1, 1), ("broken", 0, 0, 1, 0)])

    def test_locks_conditions_and_queues_break_too(self):
        program = build("begin; lock m; unlock m; lock m; end", "lock m; unlock m")
        self.assertEqual(broken_of(program, (0, 0, 0, 1, 1, 0, 0)), [("broken", 0, 0, 1, 0), ("broken", 0, 0, 1, 1)])
        program = build("begin; lock m; wait w; unlock m; end", "notify w")
        self.assertEqual(broken_of(program, (0, 0, 0, 1, 0, 0, 0)), [("broken", 0, 0, 1, 0)])
        program = build("begin; send q 1; send q 2; end", "take a q")
        self.assertEqual(broken_of(program, (0, 0, 1, 0, 0)), [("broken", 0, 0, 1, 0)])

    def test_a_step_that_fails(self):
        program = build("begin; put x 99; get a x; end", "add x 1")
        self.assertEqual(broken_of(program, (0, 0, 1, 0, 0)), [("broken", 0, 0, 1, 0)])
        program = build("begin; put x 99; get a x; end", "add x 99 + 1")
        self.assertEqual(broken_of(program, (0, 0, 1, 0, 0)), [])

    def test_a_row_of_steps_alone(self):
        program = build("begin; end; begin; end", "stop")
        row = (act(0, "y!"), act(1, "y", "z!"), act(0, "z", pc=1), act(0, pc=2))
        self.assertEqual(block_steps(program, row), [(0, 2), (3,)])
        self.assertEqual(broken_blocks(program, row), [("broken", 0, 0, 1, 0)])

    def test_the_list_is_new(self):
        program = build(MOVE, "add x 1")
        broken_of(program, (0, 0, 1, 0)).clear()
        self.assertEqual(broken_of(program, (0, 0, 1, 0)), [("broken", 0, 0, 1, 0)])

    def test_each_execution(self):
        found = 0
        for program in PROGRAMS[:20] + BLOCK_PROGRAMS:
            for _, steps, _ in complete(program, LIMIT)[::3] + executions(program, LIMIT + 3, 3000):
                expected = broken_by_trying(program, steps)
                self.assertEqual(broken_blocks(program, steps), expected)
                found += len(expected)
        self.assertGreater(found, 300)

    def test_a_block_that_no_step_breaks_can_stand_together(self):
        for program in BLOCK_PROGRAMS[:25]:
            for _, steps, _ in complete(program, LIMIT)[::5]:
                rows = class_of(steps)
                whole = [block for block in block_steps(program, steps)
                         if any(stands_together(row, steps, block) for row in rows)]
                broken = {told[1:3] for told in broken_blocks(program, steps)}
                for block in block_steps(program, steps):
                    if steps[block[0]][:2] not in broken:
                        self.assertIn(block, whole)
                if not broken:
                    self.assertEqual(whole, block_steps(program, steps))

    def test_equivalent_executions_have_the_same(self):
        for program in BLOCK_PROGRAMS[:25]:
            for _, steps, _ in complete(program, LIMIT)[::7]:
                for other in class_of(steps)[:20]:
                    self.assertEqual(sorted(broken_blocks(program, other)), sorted(broken_blocks(program, steps)))


def stands_together(row, steps, block):
    """Whether an equivalent row has the steps of a block one directly behind the other."""
    thread = steps[block[0]][0]
    ahead = len([step for step in steps[:block[0]] if step[0] == thread])
    places = [at for at, step in enumerate(row) if step[0] == thread][ahead:ahead + len(block)]
    return places == list(range(places[0], places[0] + len(block)))


if __name__ == "__main__":
    unittest.main()
