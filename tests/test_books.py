"""Rules, books, files, fitting rules and their sources: point 5 and the section of stage 2."""

import itertools
import unittest

from stemrules.books import are_files, fitting, is_book, is_rule, kin, sources_of
from stemrules.errors import Mismatch, NoBook, NoName, NoRule
from stemrules.names import in_order
from tests.things import BOOLS, ODD, changed, plain_book, plain_files, plain_name, plain_rule

LINK = ("link", ("", "exe"), (("", "o"), "LIBa"))
COMPILE = ("cc", ("", "o"), (("", "c"), ("H", "h")))
BOOK = (LINK, COMPILE)
SIXTY = in_order(["".join(word) for word in itertools.product("ABCDEFGH", repeat=2)])[:60]


class Rules(unittest.TestCase):
    def test_ordinary(self):
        for thing in (LINK, COMPILE, ("x", ("A", ""), ()), ("x", ("A", "b"), ("A",)), ("x", ("A", "b"), (("A", "b"),) * 3)):
            self.assertIs(is_rule(thing), True, thing)

    def test_labels(self):
        for label in ("x", "link", "abcdefgh"):
            self.assertIs(is_rule((label, ("A", ""), ())), True, label)
        for label in ("", "abcdefghi", "Link", "liNk", "a b", "a1", "cc\n", " cc", None, True, 1, ("c",), ["c"]):
            self.assertIs(is_rule((label, ("A", ""), ())), False, label)

    def test_patterns(self):
        for pattern in (("ABC", "def"), ("", "def"), ("ABC", "")):
            self.assertIs(is_rule(("x", pattern, ())), True, pattern)
        for pattern in (("", ""), ("ABCD", ""), ("", "abcd"), "Xy", ["A", ""], (), None):
            self.assertIs(is_rule(("x", pattern, ())), False, pattern)

    def test_number_of_sources(self):
        for many in range(7):
            self.assertIs(is_rule(("x", ("A", ""), ("Xy",) * many)), many <= 3, many)
            self.assertIs(is_rule(("x", ("A", ""), (("A", ""),) * many)), many <= 3, many)
            self.assertIs(is_rule(("x", ("A", ""), ["Xy"] * many)), False, many)

    def test_names_as_sources_have_at_most_six_letters(self):
        for name in ("A", "ABCDEF", "abcdef", "ABCdef"):
            self.assertIs(is_rule(("x", ("A", ""), (name,))), True, name)
        for name in ("", "ABCDEFG", "abcdefg", "ABCdefg", "aB"):
            self.assertIs(is_rule(("x", ("A", ""), (name,))), False, name)
            self.assertIs(is_rule(("x", ("A", ""), ("A", ("A", ""), name))), False, name)

    def test_patterns_as_sources_have_ends_of_at_most_three_letters(self):
        for source, right in ((("ABC", "def"), True), (("ABCD", ""), False), (("", "abcd"), False), (("", ""), False)):
            self.assertIs(is_rule(("x", ("A", ""), (source,))), right, source)

    def test_any_object(self):
        for rule in (COMPILE, ("abcdefgh", ("ABC", "def"), ("ABCdef", ("", "x"), "a")), ("x", ("A", ""), ())):
            for at, thing in enumerate(changed(rule)):
                self.assertIs(is_rule(thing), plain_rule(thing), (rule, at))


class Books(unittest.TestCase):
    def test_ordinary(self):
        for thing in ((), (LINK,), BOOK, (LINK, LINK), (LINK,) * 6):
            self.assertIs(is_book(thing), True, thing)

    def test_number_of_rules(self):
        for many in range(9):
            self.assertIs(is_book((LINK,) * many), many <= 6, many)

    def test_wrong(self):
        for thing in ([], [LINK], LINK, (None,), (LINK, None), (LINK, list(COMPILE)), ("LINK",), {}, None, True, 0, ""):
            self.assertIs(is_book(thing), False, thing)

    def test_any_object(self):
        for at, thing in enumerate(changed(BOOK)):
            self.assertIs(is_book(thing), plain_book(thing), at)


class Files(unittest.TestCase):
    def test_ordinary(self):
        for thing in ((), ("A",), ("Ac", "LIBa"), ("Z", "a", "AA", "Aa", "aa", "AAA")):
            self.assertIs(are_files(thing), True, thing)

    def test_sixty_and_sixty_one(self):
        self.assertEqual(len(SIXTY), 60)
        self.assertIs(are_files(SIXTY), True)
        self.assertIs(are_files(SIXTY[:59]), True)
        self.assertIs(are_files(SIXTY + ("ABC",)), False)

    def test_out_of_order_or_twice(self):
        for thing in (("LIBa", "Ac"), ("a", "Z"), ("AA", "B"), ("Ac", "Ac"), ("A", "A", "B"), ("A", "B", "A"), SIXTY[::-1]):
            self.assertIs(are_files(thing), False, thing)

    def test_wrong(self):
        for thing in ([], ["A"], "A", {}, None, True, 0, ("",), ("", "A"), ("aB",), ("A", None), (["A"],), (True,), (("A",),)):
            self.assertIs(are_files(thing), False, thing)

    def test_names_may_be_long(self):
        self.assertIs(are_files(("A" * 40, "A" * 41, "A" * 5000)), True)

    def test_any_object(self):
        for files in (("Ac", "LIBa"), ("A", "b", "Ab"), SIXTY[:4]):
            for at, thing in enumerate(changed(files)):
                self.assertIs(are_files(thing), plain_files(thing), (files, at))


class Fitting(unittest.TestCase):
    def test_ordinary(self):
        self.assertEqual(fitting(BOOK, "Mexe"), [0])
        self.assertEqual(fitting(BOOK, "Mo"), [1])
        self.assertEqual(fitting(BOOK, "Mc"), [])
        self.assertEqual(fitting((), "Mc"), [])

    def test_several_in_ascending_order(self):
        book = (("a", ("A", ""), ()), ("b", ("", "b"), ()), ("c", ("A", "b"), ()), ("d", ("B", ""), ()), ("a", ("A", ""), ()))
        self.assertEqual(fitting(book, "Ab"), [0, 1, 2, 4])
        self.assertEqual(fitting(book, "A"), [0, 4])
        self.assertEqual(fitting(book, "Bb"), [1, 3])

    def test_empty_stem_fits(self):
        self.assertEqual(fitting(BOOK, "exe"), [0])
        self.assertEqual(fitting(BOOK, "o"), [1])

    def test_name_shorter_than_both_ends(self):
        self.assertEqual(fitting((("x", ("AA", "bb"), ()),), "Abb"), [])
        self.assertEqual(fitting((("x", ("AA", "bb"), ()),), "AAb"), [])

    def test_sources_of(self):
        self.assertEqual(sources_of(BOOK, 0, "Mexe"), ["Mo", "LIBa"])
        self.assertEqual(sources_of(BOOK, 1, "Mo"), ["Mc", "HMh"])
        self.assertEqual(sources_of(BOOK, 1, "o"), ["c", "Hh"])
        self.assertEqual(sources_of((("x", ("A", ""), ()),), 0, "Ab"), [])
        self.assertEqual(sources_of((("x", ("A", ""), ("Xy", ("B", ""), "Xy")),), 0, "Ab"), ["Xy", "Bb", "Xy"])

    def test_lists_are_new(self):
        for call in (lambda: fitting(BOOK, "Mexe"), lambda: sources_of(BOOK, 0, "Mexe")):
            one = call()
            other = call()
            self.assertIsNot(one, other)
            one.append(None)
            self.assertEqual(call(), other)


class Refused(unittest.TestCase):
    """Wrong things, in each place alone and with more wrong things behind them."""

    def refused(self, kind, call, *things):
        with self.assertRaises(kind) as caught:
            call(*things)
        self.assertIs(type(caught.exception), kind)

    def test_no_book(self):
        for thing in ODD:
            if not plain_book(thing):
                for name in ("Mexe", "", None):
                    self.refused(NoBook, fitting, thing, name)
                    self.refused(NoBook, kin, thing, name)
                    for number in (0, 7, True, None):
                        self.refused(NoBook, sources_of, thing, number, name)

    def test_books_with_one_part_changed(self):
        for thing in changed(BOOK):
            if not plain_book(thing):
                self.refused(NoBook, fitting, thing, "Mexe")

    def test_no_name(self):
        for thing in ODD:
            if not plain_name(thing):
                self.refused(NoName, fitting, BOOK, thing)
                self.refused(NoName, kin, BOOK, thing)
                self.refused(NoName, fitting, (), thing)
                self.refused(NoName, kin, (), thing)
                self.refused(NoName, sources_of, BOOK, 0, thing)

    def test_no_rule(self):
        for thing in ODD + BOOLS + [len(BOOK), -1, -len(BOOK), 10 ** 12, "0", (0,), [0]]:
            if type(thing) is not int or thing not in (0, 1):
                for name in ("Mexe", "Mc", "", None):
                    self.refused(NoRule, sources_of, BOOK, thing, name)
        self.refused(NoRule, sources_of, (), 0, "A")

    def test_bools_are_no_numbers(self):
        self.assertEqual(sources_of(BOOK, 1, "Mo"), ["Mc", "HMh"])
        self.refused(NoRule, sources_of, BOOK, True, "Mo")
        self.assertEqual(sources_of(BOOK, 0, "Mexe"), ["Mo", "LIBa"])
        self.refused(NoRule, sources_of, BOOK, False, "Mexe")

    def test_rule_that_does_not_fit(self):
        self.refused(Mismatch, sources_of, BOOK, 0, "Mo")
        self.refused(Mismatch, sources_of, BOOK, 1, "Mexe")
        self.refused(Mismatch, sources_of, (("x", ("AA", "bb"), ()),), 0, "Abb")

    def test_what_is_passed_stays(self):
        things = [[list(LINK), COMPILE], [], ["Mexe"], {"A": ["b"]}, ("x", [], {}), 0, None, "Mexe", BOOK]
        for one, other, third in itertools.product(things, repeat=3):
            before = repr((one, other, third))
            for call in (lambda: fitting(one, other), lambda: kin(one, other), lambda: sources_of(one, other, third),
                         lambda: (is_rule(one), is_book(one), are_files(one))):
                try:
                    call()
                except (NoBook, NoRule, NoName, Mismatch):
                    pass
                self.assertEqual(repr((one, other, third)), before)


if __name__ == "__main__":
    unittest.main()
