"""The examples of the document's interface, word for word, and those of README.md."""

import doctest
import os
import unittest

README = os.path.join(os.path.dirname(os.path.dirname(os.path.abspath(__file__))), "README.md")

STAGE_1 = """
>>> from stemrules.names import in_order, is_name, is_pattern, is_source, parts, put_in, stem
>>> [is_name("ABc"), is_name("aB"), is_pattern(("A", "")), is_source("Xy"), parts("ABc"), stem(("A", "c"), "ABc"), stem(("A", "c"), "Ac"), stem(("B", ""), "Ac"), put_in(("", "dd"), "Bx")]
[True, False, True, True, ('AB', 'c'), 'B', '', None, 'Bxdd']
>>> [put_in("Xy", "B"), in_order(["b", "A", "Ab", "b"])]
['Xy', ('A', 'b', 'Ab')]
"""

STAGE_2 = """
>>> from stemrules.books import are_files, fitting, is_book, kin, sources_of
>>> LINK, COMPILE = ("link", ("", "exe"), (("", "o"), "LIBa")), ("cc", ("", "o"), (("", "c"), ("H", "h")))
>>> BOOK = (LINK, COMPILE)
>>> [is_book(BOOK), are_files(("Ac", "LIBa")), fitting(BOOK, "Mexe"), sources_of(BOOK, 0, "Mexe"), kin(BOOK, "Mexe")]
[True, True, [0], ['Mo', 'LIBa'], ('Mc', 'Mo', 'HMh', 'LIBa', 'Mexe')]
"""

STAGE_3 = """
>>> from stemrules.ways import block, can, made_by, shows_block, shows_way, way
>>> LINK, COMPILE = ("link", ("", "exe"), (("", "o"), "LIBa")), ("cc", ("", "o"), (("", "c"),))
>>> BOOK = (LINK, COMPILE)
>>> [way(BOOK, ("Mc", "LIBa"), "Mexe"), way(BOOK, ("Mc",), "Mexe"), can(BOOK, ("Mc",), "Mo"), made_by(BOOK, ("Mc", "LIBa"), "Mexe")]
[('Mexe', 'link', ('Mo', 'cc', ('Mc',)), ('LIBa',)), None, True, ['Mo', 'Mexe']]
>>> [shows_way(BOOK, ("Mc", "Mo"), "Mo", ("Mo", "cc", ("Mc",))), block(BOOK, ("Mc",), "Mo")]
[True, None]
>>> [shows_block(BOOK, ("Mc",), "Mexe", [("Mexe", ()), ("LIBa", (0,))]), shows_block(BOOK, ("Mc",), "Mexe", [("Mexe", ())])]
[True, False]
"""

STAGE_4 = """
>>> from stemrules.sets import barrier, barriers, least_sets, shows_barrier
>>> BOOK = (("link", ("", "exe"), (("", "o"), "LIBa")), ("cc", ("", "o"), (("", "c"),)))
>>> [least_sets(BOOK, "Mexe"), barrier(BOOK, ("Mc",), "Mexe"), shows_barrier(BOOK, ("Mc",), "Mexe", ("LIBa", "Mexe"))]
[[('Mexe',), ('Mc', 'LIBa'), ('Mo', 'LIBa')], ('LIBa', 'Mexe'), True]
>>> barriers(BOOK, "Mexe")
[('LIBa', 'Mexe'), ('Mc', 'Mo', 'Mexe')]
"""

STAGE_5 = """
>>> from stemrules.tables import lean, parting, row_for, table
>>> table((("link", ("", "exe"), (("", "o"), "LIBa")), ("cc", ("", "o"), (("", "c"),))))
[('', '', (('', ''),)), ('', 'exe', (('', 'c'), 'LIBa')), ('', 'exe', (('', 'o'), 'LIBa')), ('', 'o', (('', 'c'),))]
>>> TWO = (("x", ("", "a"), (("A", "b"),)), ("y", ("AC", "b"), (("D", ""),)))
>>> [table(TWO)[1:], row_for(TWO, ("Dx",), "Cxa"), lean(TWO + TWO[:1]), parting(TWO, TWO[::-1])]
[[('', 'a', (('A', 'b'),)), ('AC', 'ab', (('AD', 'b'),)), ('AC', 'b', (('D', ''),)), ('C', 'a', (('D', ''),))], ('C', 'a', (('D', ''),)), (0, 1, 2), None]
"""


class Examples(unittest.TestCase):
    def holds(self, text, name):
        test = doctest.DocTestParser().get_doctest(text, {}, name, name, 0)
        self.assertGreater(len(test.examples), 0)
        told = []
        result = doctest.DocTestRunner(verbose=False).run(test, out=told.append)
        self.assertEqual(result.failed, 0, "".join(told))

    def test_stage_1(self):
        self.holds(STAGE_1, "stage 1")

    def test_stage_2(self):
        self.holds(STAGE_2, "stage 2")

    def test_stage_3(self):
        self.holds(STAGE_3, "stage 3")

    def test_stage_4(self):
        self.holds(STAGE_4, "stage 4")

    def test_stage_5(self):
        self.holds(STAGE_5, "stage 5")

    def test_readme(self):
        with open(README, encoding="ascii") as file:
            self.holds(file.read(), "README.md")


if __name__ == "__main__":
    unittest.main()
