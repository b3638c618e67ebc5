"""The examples of the document's interface, word for word, and those of README.md."""

import doctest
import os
import unittest

README = os.path.join(os.path.dirname(os.path.dirname(os.path.abspath(__file__))), "README.md")

STAGE_1 = """
>>> from stemrules.names import in_order, is_name, is_pattern, is_source, parts, put_in, stem
>>> [is_name("ABc"), is_name("aB"), is_pattern(("A", "")), is_source("Xy"), parts("ABc"), stem(("A", "c"), "ABc"), stem(("A", "c"), "Ac"), stem(("B", ""), "Ac"), put_in(("", "dd"), "Bx")]
[True, False, True, True, ('AB', 'c'), 'B', '', None, 'Bxdd']
>>> [put_in("Xy", "B"), in_order(["b", "A", "Ab", "b"])]
['Xy', ('A', 'b', 'Ab')]
"""

STAGE_2 = """
>>> from stemrules.books import are_files, fitting, is_book, kin, sources_of
>>> LINK, COMPILE = ("link", ("", "exe"), (("", "o"), "LIBa")), ("cc", ("", "o"), (("", "c"), ("H", "h")))
>>> BOOK = (LINK, COMPILE)
>>> [is_book(BOOK), are_files(("Ac", "LIBa")), fitting(BOOK, "Mexe"), sources_of(BOOK, 0, "Mexe"), kin(BOOK, "Mexe")]
[True, True, [0], ['Mo', 'LIBa'], ('Mc', 'Mo', 'HMh', 'LIBa', 'Mexe')]
"""

STAGE_3 = """
>>> from stemrules.ways import block, can, made_by, shows_block, shows_way, way
>>> LINK, COMPILE = ("link", ("", "exe"), (("", "o"), "LIBa")), ("cc", ("", "o"), (("", "c"),))
>>> BOOK = (LINK, COMPILE)
>>> [way(BOOK, ("Mc", "LIBa"), "Mexe"), way(BOOK, ("Mc",), "Mexe"), can(BOOK, ("Mc",), "Mo"), made_by(BOOK, ("Mc", "LIBa"), "Mexe")]
[('Mexe', 'link', ('Mo', 'cc', ('Mc',)), ('LIBa',)), None, True, ['Mo', 'Mexe']]
>>> [shows_way(BOOK, ("Mc", "Mo"), "Mo", ("Mo", "cc", ("Mc",))), block(BOOK, ("Mc",), "Mo")]
[True, None]
>>> [shows_block(BOOK, ("Mc",), "Mexe", [("Mexe", ()), ("LIBa", (0,))]), shows_block(BOOK, ("Mc",), "Mexe", [("Mexe", ())])]
[True, False]
"""

STAGE_4 = """
>>> from stemrules.sets import barrier, barriers, least_sets, shows_barrier
>>> BOOK = (("link", ("", "exe"), (("", "o"), "LIBa")), ("cc", ("", "o"), (("", "c"),)))
>>> [least_sets(BOOK, "Mexe"), barrier(BOOK, ("Mc",), "Mexe"), shows_barrier(BOOK, ("Mc",), "Mexe", ("LIBa", "Mexe"))]
[[('Mexe',), ('Mc', 'LIBa'), ('Mo', 'LIBa')], ('LIBa', 'Mexe'), True]
>>> barriers(BOOK, "Mexe")
[('LIBa', 'Mexe'), ('Mc', 'Mo', 'Mexe')]
"""

STAGE_5 = """
>>> from stemrules.tables import lean, parting, row_for, table
>>> table((("link", ("", "exe"), (("", "o"), "LIBa")), ("cc", ("", "o"), (("", "c"),))))
[('', '', (('', ''),)), ('', 'exe', (('', 'c'), 'LIBa')), ('', 'exe', (('', 'o'), 'LIBa')), ('', 'o', (('', 'c'),))]
>>> TWO = (("x", ("", "a"), (("A", "b"),)), ("y", ("AC", "b"), (("D", ""),)))
>>> [table(TWO)[1:], row_for(TWO, ("Dx",), "Cxa"), lean(TWO + TWO[:1]), parting(TWO, TWO[::-1])]
[[('', 'a', (('A', 'b'),)), ('AC', 'ab', (('AD', 'b'),)), ('AC', 'b', (('D', ''),)), ('C', 'a', (('D', ''),))], ('C', 'a', (('D', ''),)), (0, 1, 2), None]
"""

STAGE_6 = """
>>> from stemrules.classes import class_names, same_class
>>> BOOK = (("cc", ("", "o"), (("", "c"),)),)
>>> [class_names(BOOK, ()), same_class(BOOK, (), "Mo", "XYo"), same_class(BOOK, (), "Mo", "Mc")]
[['A', 'o'], True, False]
"""

STAGE_7 = """
>>> from stemrules.alike import apart, are_alike, make_alike, makes_apart
>>> ONE = (("cc", ("", "o"), (("", "c"),)), ("as", ("", "o"), (("", "s"),)))
>>> [are_alike(ONE, ONE[::-1]), make_alike(ONE, ONE[::-1]), apart(ONE, ONE[::-1]), makes_apart(ONE, ONE[:1])]
[False, True, ('o', ('c', 's')), ('o', ('s',))]
"""

STAGE_8 = """
>>> from stemrules.uses import exchanges, first_use, needless, needless_rules
>>> BOOK = (("cc", ("", "o"), (("", "c"),)), ("as", ("", "o"), (("", "s"),)), ("cc", ("A", "o"), (("A", "c"),)))
>>> [first_use(BOOK, 1), first_use(BOOK, 2), needless(BOOK, 2), needless_rules(BOOK), exchanges(BOOK)]
[('o', ('s',)), None, True, [2], [1]]
"""

STAGE_9 = """
>>> from stemrules.runs import files_after, run, settled
>>> BOOK = (("link", ("", "exe"), (("", "o"), "LIBa")), ("cc", ("", "o"), (("", "c"),)))
>>> [run(BOOK, ("Mc", "Nc", "LIBa"), ["Mexe", "Zexe", "No", "Mexe"]), files_after(BOOK, ("Mc", "LIBa"), ["Mexe"], True)]
[(['Mo', 'Mexe', 'No'], ['Zexe'], ('Mo',)), ('Mc', 'LIBa', 'Mexe')]
>>> settled((("s", ("B", "a"), (("B", ""),)),), ("B",), ["Baa", "Ba", "A"])
([('Ba', ('Ba', 's', ('B',))), ('Baa', ('Baa', 's', ('Ba',)))], ('A',), ('B', 'Ba', 'Baa'))
"""

STAGE_10 = """
>>> from stemrules.desk import Desk
>>> desk = Desk()
>>> [desk.do(("add", 0, ("cc", ("", "o"), (("", "c"),)))), desk.do(("put", "Mc")), desk.way("Mo"), len(desk), "Mc" in desk]
[None, None, ('Mo', 'cc', ('Mc',)), 1, True]
>>> [desk.news(["Mo", "Mc", "No"]), desk.undo(), desk.can("Mo"), desk.redo(), desk.files, desk.notes()[1]]
[[('Mo', None, ('Mo', 'cc', ('Mc',))), ('Mc', None, ('Mc',))], None, False, None, ('Mc',), ('put', 'Mc')]
"""

STAGE_11 = r"""
>>> from stemrules.texts import format_book, format_rule, parse_book, parse_rule
>>> [parse_rule("cc :A*o< *c  LIBa H*h"), format_rule(("cc", ("A", "o"), (("", "c"), "LIBa"))), parse_rule("x:A*<"), format_rule(("x", ("A", ""), ()))]
[('cc', ('A', 'o'), (('', 'c'), 'LIBa', ('H', 'h'))), 'cc : A*o < *c LIBa', ('x', ('A', ''), ()), 'x : A* <']
>>> [parse_book("cc : *o < *c\n\nas : *o < *s"), format_book((("x", ("A", ""), ()),))]
[(('cc', ('', 'o'), (('', 'c'),)), ('as', ('', 'o'), (('', 's'),))), 'x : A* <\n']
"""

STAGE_12 = """
>>> from stemrules.console import Console
>>> console = Console()
>>> lines = ["add : link : *exe < *o LIBa", "add : cc : *o < *c", "put Mc", "put LIBa", "way Mexe", "can Zexe", "run Mexe", "kin Mexe"]
>>> [console.execute(line) for line in lines]
['ok', 'ok', 'ok', 'ok', 'made link', 'no', 'Mo Mexe', '4']
>>> [console.execute(line) for line in ["least Mexe", "used 1", "needless 0", "cut 0", "way Mexe", "undo", "rules", "drop Mc", "files"]]
['3', 'o: c', 'no', 'ok', 'none', 'ok', '2', 'ok', 'LIBa']
"""


class Examples(unittest.TestCase):
    def holds(self, text, name):
        test = doctest.DocTestParser().get_doctest(text, {}, name, name, 0)
        self.assertGreater(len(test.examples), 0)
        told = []
        result = doctest.DocTestRunner(verbose=False).run(test, out=told.append)
        self.assertEqual(result.failed, 0, "".join(told))

    def test_stage_1(self):
        self.holds(STAGE_1, "stage 1")

    def test_stage_2(self):
        self.holds(STAGE_2, "stage 2")

    def test_stage_3(self):
        self.holds(STAGE_3, "stage 3")

    def test_stage_4(self):
        self.holds(STAGE_4, "stage 4")

    def test_stage_5(self):
        self.holds(STAGE_5, "stage 5")

    def test_stage_6(self):
        self.holds(STAGE_6, "stage 6")

    def test_stage_7(self):
        self.holds(STAGE_7, "stage 7")

    def test_stage_8(self):
        self.holds(STAGE_8, "stage 8")

    def test_stage_9(self):
        self.holds(STAGE_9, "stage 9")

    def test_stage_10(self):
        self.holds(STAGE_10, "stage 10")

    def test_stage_11(self):
        self.holds(STAGE_11, "stage 11")

    def test_stage_12(self):
        self.holds(STAGE_12, "stage 12")

    def test_readme(self):
        with open(README, encoding="ascii") as file:
            self.holds(file.read(), "README.md")


if __name__ == "__main__":
    unittest.main()
