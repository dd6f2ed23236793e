"""The examples of the interface, word for word, and those of README.md."""

import doctest
import unittest
from pathlib import Path

README = Path(__file__).resolve().parent.parent / "README.md"

EXPRESSIONS = '''
>>> from everyturn.expressions import evaluate, read_expression, write_expression
>>> from everyturn.tokens import tokens
>>> write_expression(read_expression(tokens("-(a+2)*3 < not b")))
'-(a + 2) * 3 < not b'
>>> evaluate(read_expression(tokens("a * a - 1")), (10, 0, 0, 0))
'range'
'''

PROGRAMS = r'''
>>> from everyturn.programs import read_program
>>> read_program("var x = -3\nthread\nput x a + 1\n")
((('var', 'x', -3),), ((('put', 'x', ('op', '+', ('reg', 'a'), ('num', 1))),),))
'''

SCHEDULES = r'''
>>> from everyturn.programs import read_program
>>> from everyturn.schedules import run
>>> from everyturn.showing import show_state
>>> program = read_program("var x = 2\nlock m\nthread\nlock m\nput x 5\n")
>>> run(program, (0,))[1]
((0, 0, (('m', True),), None),)
>>> show_state(program, run(program, (0,))[0])
'x=2 m=0 | 0:1 (0 0 0 0) run'
'''

CLASSES = '''
>>> from everyturn.classes import class_size, least
>>> one = (1, 0, (("x", True),), None)
>>> other = (0, 0, (("y", True),), None)
>>> least((one, other)) == (other, one)
True
>>> class_size((one, other))
2
'''

COUNTING = r'''
>>> from everyturn.exploring import executions, tried
>>> from everyturn.counting import count_executions
>>> from everyturn.programs import read_program
>>> text = "var x = 0\nvar y = 0\nthread\nput x 1\nget a y\nthread\nput y 1\nget a x\n"
>>> program = read_program(text)
>>> count_executions(program, 40)
6
>>> [entry[0] for entry in executions(program, 40, 100)]
[(0, 0, 1, 1), (0, 1, 0, 1), (1, 1, 0, 0)]
'''

FAULTS = r'''
>>> from everyturn.faults import finds
>>> from everyturn.programs import read_program
>>> text = "var x = 0\nthread\nget a x\nput x a + 1\nthread\nget a x\nput x a + 1\n"
>>> for find in finds(read_program(text), 40, 100):
...     print(find)
(('race', 0, 0, 1, 1, 'x'), (0, 1, 1, 0))
(('race', 0, 1, 1, 0, 'x'), (0, 0, 1, 1))
(('race', 0, 1, 1, 1, 'x'), (0, 1, 0, 1))
'''

OBSERVERS = r'''
>>> from everyturn.observers import outcomes
>>> from everyturn.programs import read_program
>>> text = "var x = 0\nthread\nget a x\nput x a + 1\nthread\nadd x 1\n"
>>> for entry in outcomes(read_program(text), 40, 100):
...     print(entry)
(((1,), ('over', 'over')), (0, 1, 0))
(((2,), ('over', 'over')), (0, 0, 1))
'''

BENCH = r'''
>>> from everyturn.bench import Bench
>>> from everyturn.programs import read_program
>>> text = "var x = 0\nthread\nput x 1\nput x 2\nthread\nget a x\ncheck a < 2\n"
>>> bench = Bench(read_program(text), 40, 100)
>>> bench.work()
15
>>> bench.change(0, 1, "put x 1")
>>> bench.finds()[0][0]
('race', 0, 0, 1, 0, 'x')
'''

REPAIRS = r'''
>>> from everyturn.programs import read_program
>>> from everyturn.repairs import least_repairs
>>> text = "var x = 0\nthread\nget a x\nput x a + 1\nthread\nadd x 1\n"
>>> least_repairs(read_program(text), "x", "guard", 40, 1000)
[((0, 1), (0, 0))]
'''

JUDGE = r'''
>>> from everyturn.nearest import nearest
>>> from everyturn.programs import read_program
>>> text = "lock m\nlock n\nthread\nlock m\nlock n\nthread\nlock n\nlock m\n"
>>> nearest(read_program(text), ("deadlock", ((0, "n"), (1, "m"))), 10)
(0, 1)
'''


class ExamplesTest(unittest.TestCase):
    def check(self, name, text):
        test = doctest.DocTestParser().get_doctest(text, {}, name, None, 0)
        self.assertGreater(len(test.examples), 0)
        told = []
        results = doctest.DocTestRunner(verbose=False).run(test, out=told.append)
        self.assertEqual(results.failed, 0, "".join(told))

    def test_expressions(self):
        self.check("expressions", EXPRESSIONS)

    def test_programs(self):
        self.check("programs", PROGRAMS)

    def test_schedules(self):
        self.check("schedules", SCHEDULES)

    def test_classes(self):
        self.check("classes", CLASSES)

    def test_counting(self):
        self.check("counting", COUNTING)

    def test_faults(self):
        self.check("faults", FAULTS)

    def test_observers(self):
        self.check("observers", OBSERVERS)

    def test_bench(self):
        self.check("bench", BENCH)

    def test_repairs(self):
        self.check("repairs", REPAIRS)

    def test_judge(self):
        self.check("judge", JUDGE)

    def test_readme(self):
        self.check("README.md", README.read_text(encoding="ascii"))


if __name__ == "__main__":
    unittest.main()
