"""Rules that are used, needless, or exchanged: point 11 and the section of stage 8."""

import unittest

from stemrules.alike import are_alike
from stemrules.errors import TooMany
from stemrules.uses import exchanges, first_use, needless, needless_rules
from stemrules.ways import way
from tests.second import plain_apart, plain_first_use, plain_used, small_names
from tests.test_classes import CC, AS, FEWER, MORE, TAKEN_OFF, TWELVE, WIDE, pairs

BOOK = (CC, AS, ("cc", ("A", "o"), (("A", "c"),)))
NAMES = small_names(3)
TAKEN_OFF_MORE = TAKEN_OFF[:1] + TAKEN_OFF[2:3]


def books(seed, many, most):
    """Books of at most four rules whose names have few kin."""
    for chance, one, other, least in pairs(seed, many, most):
        yield chance, tuple((chance.choice("xxy"), *rule[1:]) for rule in one)


class FirstUse(unittest.TestCase):
    def test_ordinary(self):
        self.assertEqual(first_use(BOOK, 0), ("o", ("c",)))
        self.assertEqual(first_use(BOOK, 1), ("o", ("s",)))
        self.assertEqual(first_use((("x", ("", "z"), (("", "b"), "Q")),), 0), ("z", ("Q", "b")))

    def test_never_used(self):
        self.assertIsNone(first_use(BOOK, 2))
        self.assertIsNone(first_use((CC, CC), 1))
        # It asks for the name that it makes.
        self.assertIsNone(first_use((("x", ("A", ""), (("A", ""), "Z")),), 0))
        self.assertIsNone(first_use((("x", ("A", "a"), ()), ("y", ("AB", "a"), ())), 1))

    def test_used_within_a_way(self):
        # A rule that is hidden at the name itself, but not where the other one is spent.
        longer = ("x", ("", "a"), (("", "aa"),))
        self.assertEqual(first_use((longer, longer), 0), ("a", ("aa",)))
        self.assertEqual(first_use((longer, longer), 1), ("a", ("aaa",)))
        # The less name is one within whose way the rule stands.
        book = (("x", ("", "a"), (("", "o"),)), CC)
        self.assertEqual(first_use(book, 1), ("a", ("c",)))

    def test_ready_rules_go_first(self):
        book = (("x", ("", "o"), (("", "q"),)), AS, ("y", ("", "q"), (("", "t"),)))
        self.assertEqual(way(book, ("s", "t"), "o"), ("o", "as", ("s",)))
        self.assertEqual(first_use(book, 2), ("o", ("t",)))
        self.assertEqual(first_use(book[::-1], 0), ("o", ("t",)))

    def test_made_of_nothing(self):
        self.assertEqual(first_use((("x", ("A", ""), ()),), 0), ("A", ()))
        self.assertEqual(first_use((("y", ("B", ""), (("A", ""),)), ("x", ("A", ""), ())), 1), ("A", ()))
        self.assertEqual(first_use((("y", ("", "a"), (("A", "b"),)), ("x", ("AB", ""), ())), 1), ("AB", ()))
        self.assertEqual(first_use((("y", ("", "a"), (("A", "b"),)), ("x", ("A", "b"), ())), 1), ("a", ()))

    def test_name_with_empty_stem_and_plain_sources(self):
        book = (("x", ("AB", "c"), ("Dd",)), ("y", ("D", ""), (("E", ""),)))
        self.assertEqual(first_use(book, 0), ("ABc", ("Dd",)))
        self.assertEqual(first_use(book, 1), ("D", ("E",)))
        # By the name D it asks for itself.
        self.assertEqual(first_use((("y", ("D", ""), ("D",)),), 0), ("DA", ("D",)))

    def test_labels_do_not_matter(self):
        book = (("x", ("", "o"), (("", "c"),)), ("x", ("", "o"), (("", "c"),)), ("x", ("", "o"), (("", "d"),)))
        self.assertEqual([first_use(book, number) for number in range(3)], [("o", ("c",)), None, ("o", ("d",))])

    def test_against_the_words(self):
        told = {True: 0, False: 0}
        for chance, book in books(81, 150, 6):
            for number in range(len(book)):
                found = first_use(book, number)
                if found is not None and len(found[0]) <= 3:
                    self.assertEqual(plain_first_use(book, number, NAMES), found, (book, number))
                else:
                    self.assertIsNone(plain_first_use(book, number, NAMES), (book, number))
                if found is not None:
                    self.assertIn(number, plain_used(book, found[1], found[0]))
                    self.assertEqual(plain_first_use(book, number, [found[0]]), found)
                told[found is None] += 1
        self.assertTrue(min(told.values()) > 20, told)


class Needless(unittest.TestCase):
    def test_ordinary(self):
        self.assertEqual([needless(BOOK, number) for number in range(3)], [False, False, True])
        self.assertEqual(needless_rules(BOOK), [2])
        self.assertEqual(needless_rules(()), [])
        self.assertEqual(needless_rules((CC,)), [])

    def test_rule_twice(self):
        # Each by itself: both are needless, but not both together.
        self.assertEqual(needless_rules((CC, CC)), [0, 1])
        self.assertEqual(needless_rules((CC, AS, CC)), [2])
        self.assertEqual(needless_rules((CC, AS, AS)), [1, 2])
        longer = ("x", ("", "a"), (("", "aa"),))
        self.assertEqual(needless_rules((longer, longer)), [])

    def test_used_and_needless(self):
        # Without the first one the second one tells the same ways.
        narrow = ("cc", ("A", "o"), (("A", "c"),))
        self.assertEqual(first_use((narrow, CC), 0), ("Ao", ("Ac",)))
        self.assertEqual(needless_rules((narrow, CC)), [0])
        self.assertEqual(needless_rules((("dd", *narrow[1:]), CC)), [])

    def test_never_used_is_needless(self):
        for chance, book in books(82, 300, 12):
            told = needless_rules(book)
            self.assertEqual(told, [number for number in range(len(book)) if needless(book, number)])
            for number in range(len(book)):
                self.assertTrue(first_use(book, number) is not None or number in told)
                self.assertIs(number in told, are_alike(book, book[:number] + book[number + 1:]))

    def test_against_the_words(self):
        told = {True: 0, False: 0}
        for chance, book in books(83, 120, 6):
            for number in range(len(book)):
                found = needless(book, number)
                without = book[:number] + book[number + 1:]
                if found:
                    self.assertIsNone(plain_apart(book, without, NAMES), (book, number))
                elif plain_apart(book, without, NAMES) is None:
                    self.assertFalse(are_alike(without, book))
                told[found] += 1
        self.assertTrue(min(told.values()) > 20, told)


class Exchanges(unittest.TestCase):
    def test_ordinary(self):
        self.assertEqual(exchanges(BOOK), [1])
        self.assertEqual(exchanges(()), [])
        self.assertEqual(exchanges((CC,)), [])
        self.assertEqual(exchanges((CC, CC)), [0])

    def test_first_and_last_place(self):
        link = ("link", ("", "e"), (("", "o"),))
        self.assertEqual(exchanges((link, CC, AS)), [0])
        self.assertEqual(exchanges((CC, AS, link)), [1])
        self.assertEqual(exchanges((CC, link, AS)), [0, 1])
        self.assertEqual(exchanges((link, CC, AS, link)), [0, 2])
        self.assertEqual(exchanges((CC, AS, AS, ("dd", *CC[1:]))), [1, 2])
        self.assertEqual(exchanges((AS, CC, CC)), [1])

    def test_against_books_in_the_other_order(self):
        told = {True: 0, False: 0}
        for chance, book in books(84, 200, 12):
            found = exchanges(book)
            for number in range(len(book) - 1):
                other = book[:number] + (book[number + 1], book[number]) + book[number + 2:]
                self.assertIs(number in found, are_alike(book, other))
                told[number in found] += 1
            self.assertEqual(found, sorted(set(found) & set(range(len(book) - 1))))
        self.assertTrue(min(told.values()) > 20, told)

    def test_against_the_words(self):
        for chance, book in books(86, 100, 6):
            for number in exchanges(book):
                other = book[:number] + (book[number + 1], book[number]) + book[number + 2:]
                self.assertIsNone(plain_apart(book, other, NAMES), (book, number))


class TwelveKin(unittest.TestCase):
    CALLS = (lambda book: first_use(book, 0), lambda book: needless(book, len(book) - 1), needless_rules, exchanges)

    def refused(self, book):
        for call in self.CALLS:
            with self.assertRaises(TooMany) as caught:
                call(book)
            self.assertEqual(caught.exception.limit, 12)

    def test_twelve_let(self):
        self.assertEqual(first_use(TWELVE, 3), ("a", ("ex", "ey")))
        self.assertEqual(needless_rules(TWELVE), [])
        self.assertEqual(exchanges(TWELVE), [])
        self.assertIs(needless(TWELVE, 0), False)

    def test_thirteen_refused(self):
        self.refused(WIDE)
        self.refused(WIDE[::-1])

    def test_of_a_long_name_alone(self):
        self.assertEqual(first_use(FEWER + TAKEN_OFF[:2], 0), ("EABbae", ("F", "G", "H")))
        self.refused(TAKEN_OFF_MORE + FEWER + (("x", ("EA", "ae"), ("Z", "Y", "X")),))

    def test_books_without_the_rule_have_fewer_kin(self):
        # Of the book itself there are too many, whatever is left out.
        for number in range(4):
            self.assertEqual(needless_rules(WIDE[:number] + WIDE[number + 1:]), [])
            with self.assertRaises(TooMany):
                needless(WIDE, number)
        self.assertEqual(needless_rules(MORE[1:]), [])


if __name__ == "__main__":
    unittest.main()
