"""The examples of the interface, word for word, and those of README.md."""

import doctest
import unittest
from pathlib import Path

README = Path(__file__).resolve().parent.parent / "README.md"

EXPRESSIONS = '''
>>> from everyturn.expressions import evaluate, read_expression, write_expression
>>> from everyturn.tokens import tokens
>>> write_expression(read_expression(tokens("-(a+2)*3 < not b")))
'-(a + 2) * 3 < not b'
>>> evaluate(read_expression(tokens("a * a - 1")), (10, 0, 0, 0))
'range'
'''

PROGRAMS = r'''
>>> from everyturn.programs import read_program
>>> read_program("var x = -3\nthread\nput x a + 1\n")
((('var', 'x', -3),), ((('put', 'x', ('op', '+', ('reg', 'a'), ('num', 1))),),))
'''


class ExamplesTest(unittest.TestCase):
    def check(self, name, text):
        test = doctest.DocTestParser().get_doctest(text, {}, name, None, 0)
        self.assertGreater(len(test.examples), 0)
        told = []
        results = doctest.DocTestRunner(verbose=False).run(test, out=told.append)
        self.assertEqual(results.failed, 0, "".join(told))

    def test_expressions(self):
        self.check("expressions", EXPRESSIONS)

    def test_programs(self):
        self.check("programs", PROGRAMS)

    def test_readme(self):
        self.check("README.md", README.read_text(encoding="ascii"))


if __name__ == "__main__":
    unittest.main()
