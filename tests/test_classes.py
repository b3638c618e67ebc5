"""Classes of names: point 7 for two books and the section of stage 6."""

import random
import unittest

from stemrules.classes import class_names, next_word, same_class
from stemrules.errors import TooMany
from stemrules.names import in_order, is_name
from tests.second import plain_class_names, plain_same_class, plain_two_kin, small_names
from tests.things import plain_kin, random_book

CC, AS = ("cc", ("", "o"), (("", "c"),)), ("as", ("", "o"), (("", "s"),))
NAMES = small_names(4)
LETTERS = [chr(code) for code in (*range(65, 91), *range(97, 123))]

# Thirteen kin of the name a, and twelve, by four rules.
WIDE = tuple(("x", ("", "a"), tuple(("", one + other) for other in "xyz")) for one in "bcde")
TWELVE = WIDE[:3] + (("x", ("", "a"), (("", "ex"), ("", "ey"))),)

# Only long names have many kin: each letter behind E and each one ahead of e is taken off by its own rule.
TAKEN_OFF = (("x", ("EA", ""), (("E", ""),)), ("x", ("EB", ""), (("E", ""),)), ("x", ("", "ae"), (("", "e"),)),
             ("x", ("", "be"), (("", "e"),)))
FEWER = (("x", ("EAB", "bae"), (("F", ""), ("G", ""), ("H", ""))),)
MORE = FEWER + (("x", ("EA", "ae"), ("Z",)),)


def few_sources(chance, book):
    return tuple((rule[0], rule[1], rule[2][:chance.choice([1, 1, 2, 3])]) for rule in book)


def pairs(seed, many, most):
    """Pairs of books of at most four rules that are not refused, none of whose least names has too many kin."""
    chance = random.Random(seed)
    while many:
        one = few_sources(chance, random_book(chance, chance.randrange(5)))
        other = few_sources(chance, random_book(chance, chance.randrange(5)))
        if chance.random() < 0.4:
            other = tuple(chance.sample(one, chance.randrange(len(one) + 1)))
        try:
            told = class_names(one, other)
        except TooMany:
            continue
        if max(len(plain_two_kin(one, other, name)) for name in told) <= most:
            many -= 1
            yield chance, one, other, told


class ClassNames(unittest.TestCase):
    def test_ordinary(self):
        self.assertEqual(class_names((CC,), ()), ["A", "o"])
        self.assertEqual(class_names((), (CC,)), ["A", "o"])
        self.assertEqual(class_names((CC, ("x", ("M", ""), ())), ()), ["A", "M", "o", "Mo"])

    def test_empty_books(self):
        self.assertEqual(class_names((), ()), ["A"])

    def test_book_and_itself(self):
        for book in ((CC,), (CC, AS), TAKEN_OFF):
            right = class_names(book, ())
            for one, other in ((book, book), ((), book), (book, book[::-1]), (book[:1], book), (book, book[1:])):
                self.assertEqual(class_names(one, other), right)
        # A rule twice may stand twice in a chain, but here that makes no more kin.
        self.assertEqual(class_names((CC, CC), (CC,)), ["A", "o"])

    def test_rules_of_both_books_part_classes(self):
        self.assertEqual(class_names((CC,), (("x", ("M", "o"), ()),)), ["A", "o", "Mo"])
        # Also rules of the other book that fit kin, and rules that are spent there.
        self.assertEqual(class_names((CC,), (("x", ("Z", "c"), ()),)), ["A", "o", "Zc", "Zo"])
        self.assertEqual(class_names((("x", ("AA", ""), (("A", ""),)),), ()), ["A", "AA", "AAA"])

    def test_chains_go_through_one_book(self):
        back = ("x", ("", "c"), (("Q", "d"),))
        # Behind cc, the other book's rule makes no kin, so what fits Q*d does not matter there.
        self.assertEqual(class_names((CC,), (back, ("y", ("QB", "d"), ()))), ["A", "c", "o", "Bc", "QBd"])
        self.assertEqual(class_names((CC, back, ("y", ("QB", "d"), ())), ()), ["A", "c", "o", "Bc", "Bo", "QBd"])

    def test_least_names_of_all(self):
        self.assertEqual(class_names((("x", ("A", ""), ()), ("x", ("B", ""), ())), (("y", ("C", ""), ()),)), ["A", "B", "C", "D"])
        self.assertEqual(class_names((("x", ("", "a"), ()),), ()), ["A", "a"])
        self.assertEqual(class_names((("x", ("AB", ""), ()),), ()), ["A", "AB"])

    def test_name_with_empty_stem(self):
        self.assertEqual(class_names((("x", ("AB", "cd"), (("C", ""),)),), ()), ["A", "ABcd"])
        self.assertIs(same_class((CC,), (), "o", "Mo"), True)

    def test_name_that_stands_as_a_source_is_alone(self):
        self.assertEqual(class_names((("x", ("", "q"), ("LIBa",)),), ()), ["A", "q", "LIBa"])
        self.assertEqual(class_names((("x", ("", "q"), ("A",)),), ()), ["A", "B", "q"])
        self.assertEqual(class_names((("x", ("", "q"), ()),), (("x", ("", "q"), ("Bq", "A")),)), ["A", "B", "q", "Bq"])

    def test_name_whose_kin_stand_as_a_source_is_alone(self):
        self.assertEqual(class_names((CC,), (("x", ("", "z"), ("Mc",)),)), ["A", "o", "z", "Mc", "Mo"])
        # What is made kin by a source is a name as others are, as long as that source is no kin, too.
        book = (("x", ("", "q"), ("Ab",)), ("y", ("A", ""), (("C", ""),)), ("z", ("B", ""), (("C", ""),)), ("w", ("C", ""), (("D", ""),)))
        told = class_names(book, ())
        self.assertIn("Ab", told)
        self.assertNotIn("Bb", told)
        self.assertIs(same_class(book, (), "Bb", "Bc"), True)

    def test_name_that_comes_back_to_itself_by_a_source(self):
        # Aba makes the plain Aa by x, and this Aba by y: no other name comes back to itself.
        book = (("x", ("A", "a"), ("Aa", ("AB", "ba"))), ("y", ("", "a"), (("", "ba"),)))
        self.assertIn("Aba", class_names(book, ()))
        self.assertIs(same_class(book, (), "Aba", "Aa"), False)
        self.assertIs(same_class(book, (), "Aba", "AAa"), False)
        self.assertIs(same_class(book, (), "AAa", "ACa"), True)

    def test_ascending_and_different(self):
        for chance, one, other, told in pairs(61, 300, 12):
            self.assertEqual(tuple(told), in_order(told))
            self.assertTrue(all(is_name(name) for name in told))
            self.assertEqual(class_names(other, one), told)

    def test_against_all_small_names(self):
        for chance, one, other, told in pairs(62, 150, 8):
            self.assertEqual([name for name in told if len(name) <= 4], plain_class_names(one, other, NAMES), (one, other))

    def test_each_name_is_in_one_class(self):
        for chance, one, other, told in pairs(63, 250, 9):
            for _ in range(3):
                name = "".join(chance.choice("ABC") for _ in range(chance.randrange(7)))
                name += "".join(chance.choice("abc") for _ in range(chance.randrange(1, 7)))
                alike = [first for first in told if plain_same_class(one, other, first, name)]
                self.assertEqual(len(alike), 1, (one, other, name))
                self.assertLessEqual((len(alike[0]), alike[0]), (len(name), name))

    def test_next_word_goes_through_all_names_in_order(self):
        word = ""
        for right in in_order([one + other for one in LETTERS for other in LETTERS + [""] if is_name(one + other)]) + ("AAA",):
            word = next_word(word)
            self.assertEqual(word, right)
        for word, right in (("AZz", "Aaa"), ("AAz", "ABA"), ("ZZzz", "Zaaa"), ("Azzz", "BAAA"), ("Zzzz", "aaaa"), ("zzz", "AAAA"), ("Aazz", "Abaa")):
            self.assertEqual(next_word(word), right)

    def test_lists_are_new(self):
        one, other = class_names((CC,), ()), class_names((CC,), ())
        self.assertIs(type(one), list)
        self.assertIsNot(one, other)
        one.clear()
        self.assertEqual((other, class_names((CC,), ())), (["A", "o"], ["A", "o"]))


class SameClass(unittest.TestCase):
    def test_ordinary(self):
        self.assertIs(same_class((CC,), (), "Mo", "XYo"), True)
        self.assertIs(same_class((CC,), (), "Mo", "Mc"), False)
        self.assertIs(same_class((CC,), (), "Mc", "Zz"), True)
        self.assertIs(same_class((), (), "A", "zzz"), True)

    def test_name_and_itself(self):
        for name in ("A", "a", "o", "Mo", "Mc", "A" * 40):
            self.assertIs(same_class((CC,), (AS,), name, name), True)

    def test_sources_go_with_sources_in_order(self):
        # A swap of the sources is no correspondence of the two, nor are two sources one.
        book = (("x", ("A", ""), (("C", ""), ("D", ""))), ("x", ("B", ""), (("C", ""), ("D", ""))))
        self.assertIs(same_class(book, (), "Aa", "Ab"), True)
        self.assertIs(same_class(book, (), "Aa", "Ba"), False)
        twice = (("x", ("A", ""), (("B", "a"), "Ba")),)
        self.assertIs(same_class(twice, (), "A", "Ab"), False)
        self.assertIs(same_class(twice, (), "Ac", "Ab"), True)

    def test_as_many_kin_that_the_same_rules_fit(self):
        # Of Bba both sources of the second rule are a, of BAba the first one is the Aa of the first rule.
        book = (("x", ("B", ""), ("Aa",)), ("x", ("B", "ba"), (("", "a"), "a")))
        self.assertIs(same_class(book, (), "Bba", "BAba"), False)
        self.assertIs(same_class((), book, "BAba", "Bba"), False)
        # By ABba and the rule x, Bba comes back to itself, and Ba to its other source.
        book = (("x", ("AB", ""), (("B", ""),)), ("y", ("", "a"), ("ABba", ("", "ba"))))
        self.assertIs(same_class(book, (), "Ba", "Bba"), False)

    def test_plain_sources_have_themselves(self):
        book = (("x", ("", "q"), ("LIBa",)),)
        self.assertIs(same_class(book, (), "LIBa", "LIBb"), False)
        self.assertIs(same_class(book, (), "LIBb", "LIBa"), False)
        self.assertIs(same_class((), book, "Mq", "Nq"), True)
        self.assertIs(same_class((), book, "LIBa", "LIBa"), True)

    def test_long_names(self):
        self.assertIs(same_class((CC,), (), "M" * 39 + "o", "o"), True)
        self.assertIs(same_class((CC,), (), "M" * 39 + "c", "o"), False)
        # Letters far inside count if a chain comes to them.
        inside = "EABABABABAB", "EABABABABA"
        self.assertIs(same_class(TAKEN_OFF, (), inside[0] + "C", inside[0] + "D"), True)
        self.assertIs(same_class(TAKEN_OFF, (), "EABAC", "EABBC"), False)
        self.assertIs(same_class(TAKEN_OFF, (), "EABCA", "EABCB"), True)

    def test_against_the_words(self):
        told = {True: 0, False: 0}
        for chance, one, other, least in pairs(64, 300, 12):
            for _ in range(6):
                name, more = chance.choice(NAMES + tuple(least)), chance.choice(NAMES + tuple(least))
                right = plain_same_class(one, other, name, more)
                self.assertIs(same_class(one, other, name, more), right, (one, other, name, more))
                self.assertIs(same_class(one, other, more, name), right)
                told[right] += 1
        self.assertTrue(min(told.values()) > 100, told)


class TwelveKin(unittest.TestCase):
    def refused(self, call, *things):
        with self.assertRaises(TooMany) as caught:
            call(*things)
        self.assertEqual(caught.exception.limit, 12)

    def test_in_one_of_two_books(self):
        self.assertEqual(class_names(TWELVE, ()), class_names((), TWELVE))
        self.assertIn("a", class_names(TWELVE, (CC,)))
        for one, other in ((WIDE, ()), ((), WIDE), (WIDE, (CC,)), (WIDE, WIDE), (TWELVE, WIDE)):
            self.refused(class_names, one, other)

    def test_in_both_together(self):
        self.assertIn("a", class_names(TWELVE[:2], TWELVE[2:]))
        self.assertIn("a", class_names(TWELVE, TWELVE[::-1]))
        self.refused(class_names, WIDE[:2], WIDE[2:])
        self.refused(class_names, WIDE[2:], WIDE[:2])

    def test_of_a_long_name_alone(self):
        kin = plain_two_kin(TAKEN_OFF, MORE, "EABbae")
        self.assertEqual(len(kin), 13)
        self.refused(class_names, TAKEN_OFF, MORE)
        self.refused(class_names, MORE, TAKEN_OFF)
        self.assertIn("EABbae", class_names(TAKEN_OFF, FEWER))
        self.assertEqual(len(plain_two_kin(TAKEN_OFF, FEWER, "EABbae")), 12)

    def test_of_one_of_two_names(self):
        for one, other in ((WIDE, ()), ((), WIDE), (WIDE[:2], WIDE[2:])):
            self.assertIs(same_class(one, other, "b", "c"), True)
            for name, more in (("a", "b"), ("b", "a"), ("a", "a"), ("Za", "Zb")):
                self.refused(same_class, one, other, name, more)
        for one, other in ((TWELVE, ()), (TWELVE[:2], TWELVE[2:])):
            self.assertIs(same_class(one, other, "a", "b"), False)
            self.assertIs(same_class(one, other, "a", "Za"), True)

    def test_names_that_are_one_count_once(self):
        # One letter more, and the plain name is none of the others.
        book = TWELVE[:3] + (("x", ("", "a"), (("", "ex"), ("", "ey"), "bx")),)
        self.assertEqual([len(plain_kin(book, name)) for name in ("a", "Za")], [12, 13])
        self.assertIs(same_class(book, (), "a", "b"), False)
        self.refused(same_class, book, (), "Za", "b")
        self.refused(class_names, book, ())


if __name__ == "__main__":
    unittest.main()
