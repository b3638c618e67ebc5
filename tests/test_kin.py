"""The kin of a name: point 7 and the section of stage 2."""

import random
import unittest

from stemrules.books import are_files, is_book, kin
from tests.things import plain_kin, random_book

LINK = ("link", ("", "exe"), (("", "o"), "LIBa"))
COMPILE = ("cc", ("", "o"), (("", "c"), ("H", "h")))


class Kin(unittest.TestCase):
    def test_ordinary(self):
        self.assertEqual(kin((LINK, COMPILE), "Mexe"), ("Mc", "Mo", "HMh", "LIBa", "Mexe"))
        self.assertEqual(kin((LINK, COMPILE), "Mo"), ("Mc", "Mo", "HMh"))

    def test_name_that_no_rule_fits(self):
        self.assertEqual(kin((LINK, COMPILE), "Mc"), ("Mc",))
        self.assertEqual(kin((), "Mc"), ("Mc",))

    def test_rule_without_sources(self):
        self.assertEqual(kin((("x", ("A", ""), ()),), "Ab"), ("Ab",))

    def test_rule_stands_once_in_a_chain(self):
        book = (("x", ("", "a"), (("", "aa"),)),)
        self.assertEqual(kin(book, "a"), ("a", "aa"))
        self.assertEqual(kin(book * 2, "a"), ("a", "aa", "aaa"))
        self.assertEqual(kin(book * 6, "a"), ("a", "aa", "aaa", "aaaa", "aaaaa", "aaaaaa", "aaaaaaa"))

    def test_rule_may_stand_in_several_chains(self):
        book = (("x", ("", "a"), (("", "b"), ("", "c"))), ("y", ("A", ""), (("B", ""),)))
        self.assertEqual(kin(book, "Aa"), ("Aa", "Ab", "Ac", "Ba", "Bb", "Bc"))

    def test_all_chains_not_only_the_first_that_leads_to_a_name(self):
        # Both rules make Aab of Aa, but only behind y is x still there to make Aabb of it.
        book = (("x", ("A", ""), (("A", "b"),)), ("y", ("", "a"), (("", "ab"),)))
        self.assertEqual(kin(book, "Aa"), ("Aa", "Aab", "Aabb"))
        self.assertEqual(kin(book[::-1], "Aa"), ("Aa", "Aab", "Aabb"))
        self.assertEqual(kin(book, "Aab"), ("Aab", "Aabb"))

    def test_name_that_comes_again_in_a_chain(self):
        book = (("x", ("A", ""), (("B", ""),)), ("y", ("B", ""), (("A", ""),)), ("z", ("A", ""), (("CA", ""),)))
        self.assertEqual(kin(book, "Ab"), ("Ab", "Bb", "CAb"))
        itself = (("x", ("A", ""), (("A", ""),)),)
        self.assertEqual(kin(itself, "Ab"), ("Ab",))

    def test_plain_names_have_kin_too(self):
        book = (("x", ("", "a"), ("LIBo",)), ("y", ("", "o"), (("", "c"),)))
        self.assertEqual(kin(book, "Za"), ("Za", "LIBc", "LIBo"))

    def test_names_may_come_to_be_long(self):
        book = (("x", ("A", ""), (("ABC", "def"),)),) * 6
        found = kin(book, "A" + "b" * 39)
        self.assertEqual([len(name) for name in found], [40, 45, 50, 55, 60, 65, 70])
        self.assertEqual([len(name) for name in kin(book, found[-1])], [70, 75, 80, 85, 90, 95, 100])

    def test_against_every_chain_by_itself(self):
        chance = random.Random(7)
        for at in range(1500):
            book = random_book(chance, at % 5)
            self.assertTrue(is_book(book))
            for name in ("A", "a", "Aa", "ABba", "BAab", "AABBbbaa"):
                found = kin(book, name)
                self.assertEqual(found, plain_kin(book, name), (book, name))
                self.assertTrue(len(found) > 60 or are_files(found))

    def test_books_of_six_rules(self):
        chance = random.Random(8)
        for _ in range(40):
            book = random_book(chance, 6)
            self.assertEqual(kin(book, "ABba"), plain_kin(book, "ABba"), book)

    def test_most_kin(self):
        # Each of the 18 sources leaves its own mark, so all chains lead to different names.
        ends = [("A" + one + other, "") for one in "BCDEFG" for other in "HIJ"]
        book = tuple(("x", ("A", ""), tuple(ends[at:at + 3])) for at in range(0, 18, 3))
        many = 0
        chains = 1
        for left in (6, 5, 4, 3, 2, 1, 0):
            many += chains
            chains *= 3 * left
        self.assertEqual(len(kin(book, "A")), many)


if __name__ == "__main__":
    unittest.main()
