"""The examples of the document's interface, word for word, and those of README.md."""

import doctest
import os
import unittest

README = os.path.join(os.path.dirname(os.path.dirname(os.path.abspath(__file__))), "README.md")

STAGE_1 = """
>>> from stemrules.names import in_order, is_name, is_pattern, is_source, parts, put_in, stem
>>> [is_name("ABc"), is_name("aB"), is_pattern(("A", "")), is_source("Xy"), parts("ABc"), stem(("A", "c"), "ABc"), stem(("A", "c"), "Ac"), stem(("B", ""), "Ac"), put_in(("", "dd"), "Bx")]
[True, False, True, True, ('AB', 'c'), 'B', '', None, 'Bxdd']
>>> [put_in("Xy", "B"), in_order(["b", "A", "Ab", "b"])]
['Xy', ('A', 'b', 'Ab')]
"""

STAGE_2 = """
>>> from stemrules.books import are_files, fitting, is_book, kin, sources_of
>>> LINK, COMPILE = ("link", ("", "exe"), (("", "o"), "LIBa")), ("cc", ("", "o"), (("", "c"), ("H", "h")))
>>> BOOK = (LINK, COMPILE)
>>> [is_book(BOOK), are_files(("Ac", "LIBa")), fitting(BOOK, "Mexe"), sources_of(BOOK, 0, "Mexe"), kin(BOOK, "Mexe")]
[True, True, [0], ['Mo', 'LIBa'], ('Mc', 'Mo', 'HMh', 'LIBa', 'Mexe')]
"""


class Examples(unittest.TestCase):
    def holds(self, text, name):
        test = doctest.DocTestParser().get_doctest(text, {}, name, name, 0)
        self.assertGreater(len(test.examples), 0)
        told = []
        result = doctest.DocTestRunner(verbose=False).run(test, out=told.append)
        self.assertEqual(result.failed, 0, "".join(told))

    def test_stage_1(self):
        self.holds(STAGE_1, "stage 1")

    def test_stage_2(self):
        self.holds(STAGE_2, "stage 2")

    def test_readme(self):
        with open(README, encoding="ascii") as file:
            self.holds(file.read(), "README.md")


if __name__ == "__main__":
    unittest.main()
