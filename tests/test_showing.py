"""[m7]: the shown line of a state."""

import unittest

from everyturn.schedules import run
from everyturn.showing import show_state
from helper import build


def shown(program, schedule):
    return show_state(program, run(program, schedule)[0])


class ShowStateTest(unittest.TestCase):
    def test_first_state(self):
        program = build("stop", "stop")
        self.assertEqual(shown(program, ()), "x=2 y=-7 m=- n=- w=() q=() | 0:0 (0 0 0 0) run | 1:0 (0 0 0 0) run")

    def test_things_of_all_kinds_in_the_order_of_the_program(self):
        program = build("send q 5; lock n; stop",
                        things="queue q 3\nlock n\nvar x = -3\ncond w of n\nlock m\nvar e = 0\n")
        self.assertEqual(shown(program, ()), "q=() n=- x=-3 w=() m=- e=0 | 0:0 (0 0 0 0) run")
        self.assertEqual(shown(program, (0, 0)), "q=(5) n=0 x=-3 w=() m=- e=0 | 0:2 (0 0 0 0) run")

    def test_without_shared_things(self):
        program = build("let a = 5; stop", "stop", things="")
        self.assertEqual(shown(program, ()), " | 0:0 (0 0 0 0) run | 1:0 (0 0 0 0) run")
        self.assertEqual(shown(program, (0, 1)), " | 0:1 (5 0 0 0) run | 1:1 (0 0 0 0) over")

    def test_one_shared_thing(self):
        self.assertEqual(shown(build("stop", things="var x = 0\n"), ()), "x=0 | 0:0 (0 0 0 0) run")

    def test_owners(self):
        program = build("lock m; stop", "lock n; stop")
        self.assertEqual(shown(program, (1,)),
                         "x=2 y=-7 m=- n=1 w=() q=() | 0:0 (0 0 0 0) run | 1:1 (0 0 0 0) run")
        self.assertEqual(shown(program, (1, 0)),
                         "x=2 y=-7 m=0 n=1 w=() q=() | 0:1 (0 0 0 0) run | 1:1 (0 0 0 0) run")

    def test_items_the_oldest_first(self):
        program = build("send q 7; send q -2; send q 0; stop", things="queue q 3\n")
        self.assertEqual(shown(program, (0,)), "q=(7) | 0:1 (0 0 0 0) run")
        self.assertEqual(shown(program, (0, 0, 0)), "q=(7 -2 0) | 0:3 (0 0 0 0) run")

    def test_waiting_threads_the_longest_first(self):
        program = build("lock m; wait w", "lock m; wait w", "lock m; wait w", "notify w",
                        things="lock m\ncond w of m\n")
        self.assertEqual(shown(program, (1, 1)), "m=- w=(1) | 0:0 (0 0 0 0) run | 1:1 (0 0 0 0) wait"
                                                 " | 2:0 (0 0 0 0) run | 3:0 (0 0 0 0) run")
        self.assertEqual(shown(program, (2, 2, 0, 0, 1, 1, 3)),
                         "m=- w=(0 1) | 0:1 (0 0 0 0) wait | 1:1 (0 0 0 0) wait | 2:1 (0 0 0 0) woken"
                         " | 3:1 (0 0 0 0) over")

    def test_registers_in_their_order(self):
        program = build("let d = 4; let a = -1; let c = 99; let b = -99; stop", things="")
        self.assertEqual(shown(program, (0,) * 4), " | 0:4 (-1 -99 99 4) run")

    def test_words_of_failures(self):
        program = build("check 0", "put x 99 + 1", "unlock m", "stop")
        self.assertEqual(shown(program, (0, 1, 2, 3)),
                         "x=2 y=-7 m=- n=- w=() q=() | 0:0 (0 0 0 0) over check | 1:0 (0 0 0 0) over range"
                         " | 2:0 (0 0 0 0) over owner | 3:1 (0 0 0 0) over")


if __name__ == "__main__":
    unittest.main()
