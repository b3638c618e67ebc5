"""Books that make alike or are alike, and what parts them: point 10 and the section of stage 7."""

import itertools
import random
import unittest

from stemrules.alike import apart, are_alike, make_alike, makes_apart
from stemrules.errors import TooMany
from stemrules.tables import parting
from stemrules.ways import can, way
from tests.second import plain_apart, plain_makes_apart, plain_two_kin, small_names, subsets
from tests.test_classes import CC, AS, FEWER, MORE, TAKEN_OFF, TWELVE, WIDE, pairs

BOTH = (CC, AS)
NAMES = small_names(3)


class Alike(unittest.TestCase):
    def told(self, one, other):
        """What is told of two books, in either order: whether they make alike and are alike."""
        found = make_alike(one, other), are_alike(one, other)
        self.assertEqual((make_alike(other, one), are_alike(other, one)), found)
        for right, call in zip(found, (makes_apart, apart)):
            self.assertIs(type(right), bool)
            self.assertEqual(call(one, other), call(other, one))
            self.assertIs(call(one, other) is None, right)
        return found

    def test_empty_books(self):
        self.assertEqual(self.told((), ()), (True, True))
        self.assertEqual(self.told((), (CC,)), (False, False))
        self.assertEqual(self.told((), (("x", ("A", ""), ()),)), (False, False))

    def test_book_and_itself(self):
        for book in ((CC,), BOTH, TAKEN_OFF, TWELVE, MORE):
            self.assertEqual(self.told(book, book), (True, True))

    def test_other_order(self):
        self.assertEqual(self.told(BOTH, BOTH[::-1]), (True, False))
        # No name is fitted by both.
        link = ("link", ("", "e"), (("", "o"),))
        for other in itertools.permutations((CC, link)):
            self.assertEqual(self.told((CC, link), other), (True, True))
        self.assertEqual(self.told(TAKEN_OFF, TAKEN_OFF[1::-1] + TAKEN_OFF[2:]), (True, True))
        # Here the rules that fit a name are different ones with different labels.
        labelled = tuple((str.lower(rule[1][0] + rule[1][1]), *rule[1:]) for rule in TAKEN_OFF)
        self.assertEqual(self.told(labelled, labelled[::-1]), (True, False))

    def test_rule_more(self):
        self.assertEqual(self.told((CC,), BOTH), (False, False))
        self.assertEqual(makes_apart((CC,), BOTH), ("o", ("s",)))
        self.assertEqual(apart((CC,), BOTH), ("o", ("s",)))

    def test_rule_twice(self):
        self.assertEqual(self.told((CC,), (CC, CC)), (True, True))
        self.assertEqual(self.told(BOTH, BOTH + BOTH), (True, True))
        self.assertEqual(self.told(BOTH, (AS,) + BOTH), (True, False))
        # Twice in a chain a rule can do more than once.
        longer = ("x", ("", "a"), (("", "aa"),))
        self.assertEqual(self.told((longer,), (longer, longer)), (False, False))
        self.assertEqual(makes_apart((longer,), (longer, longer)), ("a", ("aaa",)))

    def test_rule_that_an_earlier_one_hides(self):
        narrow, wide = ("x", ("A", "o"), (("A", "c"),)), ("x", ("", "o"), (("", "c"),))
        self.assertEqual(self.told((wide,), (wide, narrow)), (True, True))
        self.assertEqual(self.told((wide,), (narrow, wide)), (True, True))
        other = ("y", *narrow[1:])
        self.assertEqual(self.told((wide,), (wide, other)), (True, True))
        self.assertEqual(self.told((wide,), (other, wide)), (True, False))
        self.assertEqual(apart((wide,), (other, wide)), ("Ao", ("Ac",)))

    def test_rule_that_makes_nothing_more(self):
        self.assertEqual(self.told((), (("x", ("A", ""), (("A", ""),)),)), (True, True))
        self.assertEqual(self.told((CC,), (CC, ("x", ("", "o"), (("", "o"), ("", "d"))))), (True, True))

    def test_labels(self):
        other = ("dd", *CC[1:])
        self.assertEqual(self.told((CC,), (other,)), (True, False))
        self.assertEqual(apart((CC,), (other,)), ("o", ("c",)))
        # A label may be that of several rules: the ways are the same all the same.
        one = (("x", ("A", ""), (("B", ""),)), ("x", ("", "a"), (("", "b"),)))
        self.assertEqual(self.told((("x", ("", "a"), (("", "b"),)),), (("x", ("A", "a"), (("A", "b"),)), ("x", ("", "a"), (("", "b"),)))),
                         (True, True))
        self.assertEqual(self.told(one, one[::-1]), (True, False))
        self.assertEqual(apart(one, one[::-1]), ("Aa", ("Bb",)))

    def test_unlike_ways_within(self):
        # The first rules tell the same, but of a source the ways are unlike.
        for end, least in (("e", "e"), ("z", "o")):
            link = ("link", ("", end), (("", "o"),))
            self.assertEqual(apart((link,) + BOTH, (link,) + BOTH[::-1]), (least, ("c", "s")))
        # A rule that is spent on the way to a name is another matter than at the name itself.
        one = (("x", ("", "a"), (("", "b"),)), ("y", ("", "b"), (("", "a"),)))
        self.assertEqual(self.told(one, one[::-1]), (True, True))

    def test_ready_rules_go_first(self):
        # as is ready in both orders, cc only behind a chain: the order makes no difference then.
        pp = ("pp", ("", "c"), (("", "y"),))
        self.assertEqual(apart((CC, AS, pp), (AS, CC, pp)), ("o", ("c", "s")))
        chained = ("cc", ("", "o"), (("", "q"),))
        book = (chained, AS, ("pp", ("", "q"), (("", "y"),)))
        self.assertEqual(apart(book, (AS, chained, book[2])), ("o", ("q", "s")))

    def test_names_that_no_rule_fits(self):
        for name in ("A", "Mc", "zz"):
            self.assertEqual([way(book, (), name) for book in (BOTH, BOTH[::-1])], [None, None])
        self.assertEqual(makes_apart((("x", ("Q", ""), ()),), ()), ("Q", ()))

    def test_name_that_is_a_source(self):
        # The rule makes the name a of itself alone, so what parts the books is the next name.
        self.assertEqual(makes_apart((("x", ("", "a"), ("a",)),), ()), ("Aa", ("a",)))
        self.assertEqual(makes_apart((("x", ("A", ""), ("A",)),), ()), ("AA", ("A",)))
        self.assertEqual(apart((("x", ("A", ""), ("A",)),), ()), ("AA", ("A",)))
        one, other = (("x", ("", "a"), ("Ab",)),), (("x", ("", "a"), (("", "b"),)),)
        self.assertEqual(makes_apart(one, other), ("a", ("b",)))
        # At Aa both ask for Ab, so there they do not differ; and of a the files b are less than Ab.
        self.assertEqual(way(one, ("Ab",), "Aa"), way(other, ("Ab",), "Aa"))

    def test_name_with_empty_stem(self):
        self.assertEqual(makes_apart((("x", ("AB", "c"), (("C", ""),)),), ()), ("ABc", ("C",)))
        self.assertEqual(makes_apart((("x", ("AB", "c"), (("D", "d"), "C")),), ()), ("ABc", ("C", "Dd")))

    def test_least_files_by_their_number_then_name_by_name(self):
        rules = [("x", ("", "z"), ("bb", "a")), ("y", ("", "z"), ("Q", "b")), ("z", ("", "z"), ("cccc",))]
        self.assertEqual(makes_apart(tuple(rules), ()), ("z", ("cccc",)))
        self.assertEqual(makes_apart(tuple(rules[:2]), ()), ("z", ("Q", "b")))
        self.assertEqual(makes_apart(tuple(rules[1::-1]), ()), ("z", ("Q", "b")))
        self.assertEqual(makes_apart((("x", ("", "z"), ()),), ()), ("z", ()))

    def test_against_the_words(self):
        told = {}
        for chance, one, other, least in pairs(71, 140, 6):
            one, other = [tuple((chance.choice("xy"), *rule[1:]) for rule in book) for book in (one, other)]
            for call, plain in ((makes_apart, plain_makes_apart), (apart, plain_apart)):
                found = call(one, other)
                if found is not None and len(found[0]) <= 3:
                    self.assertEqual(plain(one, other, NAMES), found, (one, other))
                else:
                    self.assertIsNone(plain(one, other, NAMES), (one, other))
                if found is not None:
                    self.assertEqual(plain(one, other, [found[0]]), found)
                told[call, found is None] = told.get((call, found is None), 0) + 1
        self.assertTrue(len(told) == 4 and min(told.values()) > 10, told)

    def test_what_is_told_parts(self):
        for chance, one, other, least in pairs(72, 600, 12):
            found = makes_apart(one, other)
            if found is not None:
                name, files = found
                self.assertNotEqual(can(one, files, name), can(other, files, name))
            found = apart(one, other)
            if found is not None:
                name, files = found
                self.assertNotEqual(way(one, files, name), way(other, files, name))
                self.assertTrue(set(files) <= set(plain_two_kin(one, other, name)))

    def test_of_the_least_names_none_ahead_parts(self):
        for chance, one, other, least in pairs(73, 100, 7):
            found = apart(one, other)
            for name in least[:least.index(found[0])] if found is not None else least:
                for files in subsets(plain_two_kin(one, other, name)):
                    self.assertEqual(way(one, files, name), way(other, files, name), (one, other, name, files))

    def test_make_alike_exactly_if_the_tables_are_equal(self):
        told = {True: 0, False: 0}
        for chance, one, other, least in pairs(74, 500, 12):
            try:
                right = parting(one, other) is None
            except TooMany:
                continue
            told[right] += 1
            self.assertIs(make_alike(one, other), right, (one, other))
            if are_alike(one, other):
                self.assertTrue(right)
        self.assertTrue(min(told.values()) > 50, told)


class TwelveKin(unittest.TestCase):
    def refused(self, one, other):
        for call in (make_alike, are_alike, makes_apart, apart):
            with self.assertRaises(TooMany) as caught:
                call(one, other)
            self.assertEqual(caught.exception.limit, 12)

    def test_twelve_let(self):
        self.assertEqual(makes_apart(TWELVE, ()), ("a", ("ex", "ey")))
        self.assertEqual(apart((), TWELVE), ("a", ("ex", "ey")))
        self.assertIs(make_alike(TWELVE, TWELVE[::-1]), True)
        self.assertEqual(apart(TWELVE, TWELVE[::-1]), ("a", ("bx", "by", "bz", "ex", "ey")))
        self.assertIsNone(apart(TWELVE, TWELVE))
        self.assertEqual(makes_apart(TWELVE[:2], TWELVE[2:]), ("a", ("ex", "ey")))
        self.assertEqual(makes_apart(TWELVE[:2], TWELVE[2:3]), ("a", ("bx", "by", "bz")))

    def test_thirteen_refused(self):
        for one, other in ((WIDE, ()), ((), WIDE), (WIDE, WIDE), (WIDE[:2], WIDE[2:]), (WIDE[:1], WIDE[1:]), (TWELVE, WIDE)):
            self.refused(one, other)

    def test_refused_though_a_lesser_name_parts(self):
        self.refused(WIDE, (("x", ("A", ""), ()),))
        self.assertEqual(makes_apart(TAKEN_OFF, FEWER), ("EA", ("E",)))
        self.refused(TAKEN_OFF, MORE)
        self.refused(MORE, TAKEN_OFF)


if __name__ == "__main__":
    unittest.main()
