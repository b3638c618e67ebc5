"""Open ways, rows, tables, what they tell of names and files, parting and lean rules: points 9 and 11, stage 5."""

import itertools
import random
import unittest

from stemrules.books import are_files, is_book, kin
from stemrules.errors import TooMany
from stemrules.names import is_name
from stemrules.tables import lean, parting, row_for, table
from stemrules.ways import can
from tests.second import plain_count, plain_lean, plain_table, plain_under
from tests.things import plain_stem, random_book, random_files

LINK, COMPILE = ("link", ("", "exe"), (("", "o"), "LIBa")), ("cc", ("", "o"), (("", "c"),))
BOOK = (LINK, COMPILE)
X, Y = ("x", ("", "a"), (("A", "b"),)), ("y", ("AC", "b"), (("D", ""),))
ITSELF = ("", "", (("", ""),))
NAMES = ("A", "a", "Aa", "ABba", "BAab", "AABBbbaa", "Bb", "QABbaq", "AQqa", "BABAQqbaba")

# Books by the number of the open ways of ("", "") that they have, each choice counted.
COUNTED = {
    299: (("a", ("A", "b"), (("", "b"),)), ("b", ("AB", "b"), (("B", "ba"), ("B", "a"), ("AB", "a"))),
          ("c", ("A", ""), (("A", "b"), ("A", "b"), "Aa")), ("d", ("A", "b"), (("B", "a"), ("B", ""), ("AB", ""))),
          ("e", ("AB", "b"), (("AB", "ba"),))),
    300: (("a", ("A", "b"), (("AB", "b"),)), ("b", ("A", "ba"), (("AB", "ba"),)), ("c", ("AB", "b"), (("A", ""), "b", ("", "b"))),
          ("d", ("B", "a"), (("", "b"), ("", "ba"), "Aa")), ("e", ("AB", "a"), (("A", "b"), ("B", "b")))),
    301: (("a", ("A", ""), (("B", "ba"), ("A", "a"), ("AB", "a"))), ("b", ("A", ""), (("AB", "ba"),)),
          ("c", ("B", "ba"), (("B", "ba"),)), ("d", ("AB", "b"), (("AB", "b"), ("A", "a"), ("B", "a")))),
    307: (("a", ("A", ""), (("", "b"), ("B", "b"), ("A", "ba"))), ("b", ("AB", "ba"), (("A", "ba"),)),
          ("c", ("AB", "ba"), (("A", "ba"),)), ("d", ("A", "b"), (("AB", "ba"), ("B", "ba"), ("A", "ba")))),
}
# The same number, but far fewer rows: most choices come to rows that are equal or lie under another one.
FEW_ROWS = (("a", ("A", "b"), (("AB", "b"),)), ("b", ("AB", "ba"), (("AB", "b"), ("B", ""), ("", "b"))),
            ("c", ("A", "b"), ("b", "A", "A")), ("d", ("", "b"), (("", "b"),)))


def cases(seed, many, most):
    """Books that are not refused, with at most so many open ways."""
    chance = random.Random(seed)
    while many:
        book = random_book(chance, chance.randrange(7))
        if plain_count(book, most + 1) <= most:
            many -= 1
            yield chance, book


class Table(unittest.TestCase):
    def test_empty_book(self):
        self.assertEqual(table(()), [ITSELF])

    def test_ordinary(self):
        self.assertEqual(table(BOOK), [ITSELF, ("", "exe", (("", "c"), "LIBa")), ("", "exe", (("", "o"), "LIBa")),
                                       ("", "o", (("", "c"),))])
        self.assertEqual(table((COMPILE,)), [ITSELF, ("", "o", (("", "c"),))])

    def test_rule_without_sources(self):
        self.assertEqual(table((("x", ("A", "b"), ()),)), [ITSELF, ("A", "b", ())])
        book = (("x", ("A", ""), (("B", ""), "Cd")), ("y", ("C", ""), ()))
        self.assertEqual(table(book), [ITSELF, ("A", "", (("B", ""),)), ("C", "", ())])

    def test_too_long_target_asks_further_inside(self):
        self.assertEqual(table((X, Y))[1:], [("", "a", (("A", "b"),)), ("AC", "ab", (("AD", "b"),)), ("AC", "b", (("D", ""),)),
                                             ("C", "a", (("D", ""),))])

    def test_what_is_left_of_the_open_name_goes_behind_and_ahead(self):
        # x makes *a of AB*ab; y takes A and b of it, and what is left is put beside the star.
        book = (("x", ("", "a"), (("AB", "ab"),)), ("y", ("A", "b"), (("C", "d"), "Ee")))
        self.assertEqual(table(book), [ITSELF, ("", "a", (("AB", "ab"),)), ("", "a", (("CB", "ad"), "Ee")),
                                       ("A", "b", (("C", "d"), "Ee"))])

    def test_asked_at_both_sides(self):
        book = (("x", ("", "z"), (("A", "b"),)), ("y", ("ABC", "cab"), (("D", "d"),)))
        self.assertIn(("BC", "caz", (("D", "d"),)), table(book))
        self.assertEqual(table(book), plain_table(book))

    def test_ends_that_do_not_go_together(self):
        for end in (("BA", ""), ("", "ba"), ("AC", "c"), ("C", "b")):
            book = (("x", ("", "z"), (("AB", "ab"),)), ("y", end, ("Ee",)))
            self.assertNotIn("Ee", [source for row in table(book) if row[:2] == ("", "z") for source in row[2]])
            self.assertEqual(table(book), plain_table(book))

    def test_sources_that_ask_for_different_letters(self):
        # Both sources ask for letters: B begins BC, so the source of the shorter one gets C beside its star.
        book = (("x", ("", "z"), (("A", "a"), ("D", "d"))), ("y", ("AB", "a"), (("E", "e"),)), ("w", ("DBC", "d"), (("F", "f"),)))
        self.assertIn(("BC", "z", (("EC", "e"), ("F", "f"))), table(book))
        self.assertIn(("B", "z", (("DB", "d"), ("E", "e"))), table(book))
        other = (book[0], book[1], ("w", ("DCB", "d"), (("F", "f"),)))
        self.assertNotIn("BC", [row[0] for row in table(other)])
        self.assertFalse([row for row in table(other) if ("E", "e") in row[2] and ("F", "f") in row[2]])
        tails = (("x", ("Z", ""), (("A", "a"), ("D", "d"))), ("y", ("A", "ba"), (("E", "e"),)), ("w", ("D", "cbd"), (("F", "f"),)))
        self.assertIn(("Z", "cb", (("E", "ce"), ("F", "f"))), table(tails))
        for one in (book, other, tails):
            self.assertEqual(table(one), plain_table(one))

    def test_plain_names_have_open_ways_too(self):
        book = (("x", ("", "z"), ("LIBo",)), ("y", ("", "o"), (("", "c"),)), ("w", ("LIB", ""), ("Q", ("R", "r"))))
        self.assertEqual(table(book), [ITSELF, ("", "o", (("", "c"),)), ("", "z", ("LIBc",)), ("", "z", ("LIBo",)),
                                       ("", "z", ("Q", "Rcr")), ("", "z", ("Q", "Ror")), ("LIB", "", ("Q", ("R", "r"))),
                                       ("LIB", "o", ("Q", ("R", "cr")))])

    def test_sources_are_different_ones_by_their_texts(self):
        # Texts are strings: a star comes ahead of letters, and short names not ahead of long ones.
        for sources, told in ((("Z", ("A", ""), ("", "a")), (("", "a"), ("A", ""), "Z")), (("AA", ("", "a"), "AA"), (("", "a"), "AA")),
                              (("b", "aaa", "Z"), ("Z", "aaa", "b")), (("Ba", "B", ("B", "a")), ("B", ("B", "a"), "Ba"))):
            self.assertEqual(table((("x", ("Q", "q"), sources),)), [ITSELF, ("Q", "q", told)])

    def test_rows_by_their_texts(self):
        ends = [("", "a"), ("", "aa"), ("A", ""), ("A", "a"), ("AA", ""), ("B", "")]
        book = tuple(("x", end, ("Zz",)) for end in ends)
        self.assertEqual([row[:2] for row in table(book[1:3] + book[5:])], [("", ""), ("", "aa"), ("A", ""), ("B", "")])
        # With the same ends by the sources' texts: nothing, then *c, C*, Cc; one source ahead of more of it.
        choices = (("Cc",), (("C", ""),), (("", "d"), ("", "c")), (("", "e"),))
        rows = table(tuple(("x", ("A", "b"), sources) for sources in choices))
        self.assertEqual([row[2] for row in rows[1:]], [(("", "c"), ("", "d")), (("", "e"),), (("C", ""),), ("Cc",)])

    def test_row_that_lies_under_another_one(self):
        # A longer end, more sources, or both.
        self.assertEqual(table((("x", ("", "a"), ("Z",)), ("y", ("A", "a"), ("Z",)))), [ITSELF, ("", "a", ("Z",))])
        self.assertEqual(table((("x", ("", "a"), ("Z",)), ("y", ("", "a"), ("Z", "Y")))), [ITSELF, ("", "a", ("Z",))])
        self.assertEqual(table((("x", ("", "a"), (("", "b"),)), ("y", ("A", "ca"), (("A", "cb"), "Z")))), [ITSELF, ("", "a", (("", "b"),))])
        self.assertEqual(table((("x", ("", "a"), ()), ("y", ("A", "ca"), (("A", "cb"), "Z")))), [ITSELF, ("", "a", ())])

    def test_row_that_lies_under_none(self):
        pairs = [((("A", "a"), ("Z",)), (("", "ca"), ("Y",))), ((("A", "a"), ("Z",)), (("B", "a"), ("Z",))),
                 ((("", "a"), (("", "b"),)), (("A", "ca"), (("", "b"), ("A", "b"), ("", "cb"))))]
        for one, other in pairs:
            self.assertEqual(len(table((("x", *one), ("y", *other)))), 3, (one, other))

    def test_row_that_asks_for_the_name_itself_lies_under_it(self):
        self.assertEqual(table((("x", ("A", "b"), (("A", "b"), "Z")),)), [ITSELF])
        self.assertEqual(table((("x", ("A", "b"), (("A", "b"),)),)), [ITSELF])

    def test_rules_in_another_order_have_the_same_table(self):
        for chance, book in cases(31, 100, 60):
            right = table(book)
            for other in itertools.islice(itertools.permutations(book), 30):
                self.assertEqual(table(other), right)

    def test_labels_do_not_matter(self):
        self.assertEqual(table((X, Y)), table((("q", *X[1:]), ("q", *Y[1:]))))

    def test_against_the_words(self):
        for chance, book in cases(32, 500, 150):
            self.assertEqual(table(book), plain_table(book), book)

    def test_rows_lie_under_no_other_one(self):
        for chance, book in cases(33, 200, 300):
            rows = table(book)
            self.assertFalse([row for row in rows for other in rows if row != other and plain_under(row, other)])
            self.assertEqual(len(rows), len(set(rows)))

    def test_lists_are_new(self):
        one, other = table(BOOK), table(BOOK)
        self.assertIsNot(one, other)
        before = list(other)
        one.clear()
        self.assertEqual((other, table(BOOK)), (before, before))


class RowFor(unittest.TestCase):
    def test_ordinary(self):
        self.assertEqual(row_for(BOOK, ("Mc", "LIBa"), "Mexe"), ("", "exe", (("", "c"), "LIBa")))
        self.assertEqual(row_for(BOOK, ("Mo", "LIBa"), "Mexe"), ("", "exe", (("", "o"), "LIBa")))
        self.assertEqual(row_for((X, Y), ("Dx",), "Cxa"), ("C", "a", (("D", ""),)))
        self.assertIsNone(row_for(BOOK, ("Mc",), "Mexe"))

    def test_first_one(self):
        self.assertEqual(row_for(BOOK, ("Mc", "Mo", "LIBa"), "Mexe"), ("", "exe", (("", "c"), "LIBa")))
        self.assertEqual(row_for(BOOK, ("Mc", "Mo", "LIBa", "Mexe"), "Mexe"), ITSELF)

    def test_name_in_the_files(self):
        self.assertEqual(row_for((), ("A",), "A"), ITSELF)
        self.assertIsNone(row_for((), ("A",), "B"))
        self.assertIsNone(row_for((), (), "A"))

    def test_rule_without_sources_and_empty_stem(self):
        self.assertEqual(row_for((("x", ("A", "b"), ()),), (), "Ab"), ("A", "b", ()))
        self.assertIsNone(row_for((("x", ("A", "b"), ()),), (), "A"))
        self.assertEqual(row_for(BOOK, ("c",), "o"), ("", "o", (("", "c"),)))

    def test_exactly_if_it_can_be_made(self):
        made = 0
        for chance, book in cases(34, 400, 200):
            rows = table(book)
            for name in chance.sample(NAMES, 4):
                names = kin(book, name)
                for _ in range(4):
                    files = random_files(chance, chance.sample(names, min(len(names), 12)) + ["Z", "Zz"], 12)
                    row = row_for(book, files, name)
                    self.assertEqual(row is not None, can(book, files, name), (book, files, name))
                    self.assertEqual(row, self.plain_row_for(rows, files, name))
                    made += row is not None
        self.assertGreater(made, 1000)

    def plain_row_for(self, rows, files, name):
        for begin, end, sources in rows:
            within = plain_stem((begin, end), name)
            if within is not None and all((s if isinstance(s, str) else s[0] + within + s[1]) in files for s in sources):
                return begin, end, sources
        return None


class Parting(unittest.TestCase):
    def parts(self, one, other):
        """Whether two books are told a parting; each that is told is tried."""
        for first, second in ((one, other), (other, one)):
            told = parting(first, second)
            if told is None:
                self.assertEqual(table(one), table(other))
                self.assertIsNone(parting(second, first))
                return False
            self.assertIs(type(told), tuple)
            name, files = told
            self.assertTrue(is_name(name) and are_files(files), told)
            self.assertNotEqual(can(one, files, name), can(other, files, name), (one, other, told))
        return True

    def test_alike(self):
        for one, other in (((), ()), (BOOK, BOOK), (BOOK, BOOK[::-1]), ((X, Y), (Y, X)), ((COMPILE,), (COMPILE, COMPILE)),
                           ((("x", ("", "a"), ("Z",)),), (("y", ("", "a"), ("Z",)), ("x", ("A", "a"), ("Z", "Y")))),
                           ((), (("x", ("A", ""), (("A", ""),)),))):
            self.assertIs(self.parts(one, other), False)

    def test_apart(self):
        for one, other in ((BOOK, ()), ((), (("x", ("A", ""), ()),)), (BOOK, BOOK[:1]), (BOOK, BOOK[1:]), ((X, Y), (X,)),
                           ((X, Y), (X, Y, X)), ((("x", ("A", ""), ("B",)),), (("x", ("A", ""), ("C",)),)),
                           ((("x", ("A", ""), ("B",)),), (("x", ("A", ""), ("B", "C")),))):
            self.assertIs(self.parts(one, other), True)

    def test_pattern_and_plain_name_that_is_put_for_it(self):
        # With a short stem the source of the pattern would be one of the plain names.
        for plain in ("b", "Ab", "AAb", "AAAb", "AAAAb", "AAAAAb", "BBBb", "aaab", "AAaab"):
            self.assertIs(self.parts((("x", ("", "a"), (("", "b"),)),), (("x", ("", "a"), (plain,)),)), True)
        plain = tuple(("x", ("", "a"), tuple(letter * many + "b" for letter in "ABC")) for many in range(6))
        self.assertTrue(is_book(plain))
        self.assertIs(self.parts((("x", ("", "a"), (("", "b"),)),), plain), True)
        # Names that rules make of plain ones are longer, up to these.
        grown = (("x", ("", "a"), ("ABCDEb",)),) + (("y", ("A", ""), (("ACD", "bcd"),)),) * 3
        self.assertIs(self.parts((("x", ("", "a"), (("", "b"),)),), grown), True)

    def test_books_that_ask_for_many_letters(self):
        # The other book has rules for all names that begin with A to R, and one that makes nothing more.
        letters = "ABCDEFGHIJKLMNOPQR"
        other = tuple(("x", (letters[at:at + 3], ""), ()) for at in range(0, 18, 3))
        self.assertIs(self.parts((("y", ("", "a"), ()),), other), True)
        self.assertIs(self.parts((("y", ("", "a"), ()),) + other[:5], other), True)
        rest = (("x", ("A", "a"), ()), ("x", ("B", "a"), ()), ("x", ("C", "a"), ()), ("x", ("DEF", "a"), ()))
        self.assertIs(self.parts((("y", ("", "a"), ()),), rest), True)
        chained = (("x", ("", "a"), (("A", "a"),)), ("x", ("AB", "a"), (("C", "a"),)), ("x", ("CDE", ""), ("Z",)))
        self.assertIs(self.parts((("y", ("", "a"), ("Z",)),), chained), True)

    def test_many_files(self):
        # Three sources, each made of three others.
        book = (("x", ("", "z"), ("A", "B", "C")), ("x", ("A", ""), ("AA", "AB", "AC")), ("x", ("B", ""), ("BA", "BB", "BC")),
                ("x", ("C", ""), ("CA", "CB", "CC")))
        self.assertEqual(max(len(row[2]) for row in table(book)), 9)
        for at in range(4):
            self.assertIs(self.parts(book, book[:at] + book[at + 1:]), True)

    def test_random_books(self):
        told = {True: 0, False: 0}
        before = ()
        for chance, book in cases(35, 400, 150):
            cut = chance.randrange(len(book) + 1)
            for other in (before, book[:cut] + book[cut + 1:], book[:cut] + book[:1] + book[cut:], book[cut:] + book[:cut]):
                if len(other) <= 6 and plain_count(other, 301) <= 300:
                    told[self.parts(book, other)] += 1
            before = book
        self.assertTrue(min(told.values()) > 200, told)

    def test_none_exactly_if_they_make_alike(self):
        # All short names, and all files among the kin, if these are few.
        tried = 0
        for chance, book in cases(36, 200, 60):
            cut = chance.randrange(len(book) + 1)
            other = book[:cut] + book[cut + 1:]
            if parting(book, other) is None and other != book:
                for name in NAMES:
                    names = sorted(set(kin(book, name)) | set(kin(other, name)), key=lambda one: (len(one), one))
                    for number in range(1 << len(names)) if len(names) <= 6 else ():
                        files = tuple(one for at, one in enumerate(names) if number >> at & 1)
                        self.assertEqual(can(book, files, name), can(other, files, name), (book, other))
                        tried += 1
        self.assertGreater(tried, 1000)


class Lean(unittest.TestCase):
    def test_ordinary(self):
        self.assertEqual(lean(()), ())
        self.assertEqual(lean(BOOK), (0, 1))
        self.assertEqual(lean((X, Y)), (0, 1))

    def test_rule_twice(self):
        self.assertEqual(lean((COMPILE, COMPILE)), (0,))
        self.assertEqual(lean(BOOK + BOOK), (0, 1))
        self.assertEqual(lean((COMPILE,) * 6), (0,))
        self.assertEqual(lean((X, Y, X)), (0, 1, 2))
        longer = ("x", ("", "a"), (("", "aa"),))
        self.assertEqual(lean((longer, longer)), (0, 1))
        self.assertEqual(lean((longer, longer, COMPILE, COMPILE)), (0, 1, 2))

    def test_last_ones_go_first(self):
        narrow, wide = ("x", ("A", "a"), ("Z",)), ("y", ("", "a"), ("Z",))
        self.assertEqual(lean((narrow, wide)), (1,))
        self.assertEqual(lean((wide, narrow)), (0,))
        self.assertEqual(lean((narrow, narrow)), (0,))
        # What one does directly the other two do by a chain.
        there, back, both = ("x", ("A", ""), (("B", ""),)), ("y", ("B", ""), ("Z",)), ("z", ("A", ""), ("Z",))
        self.assertEqual(lean((there, back, both)), (0, 1))
        self.assertEqual(lean((both, back, there)), (1, 2))

    def test_rules_that_make_nothing_more(self):
        self.assertEqual(lean((("x", ("A", "b"), (("A", "b"), "Z")),)), ())
        self.assertEqual(lean((("x", ("A", ""), (("A", ""),)),) * 3), ())

    def test_against_the_words(self):
        found = {}
        for chance, book in cases(37, 250, 40):
            told = lean(book)
            self.assertEqual(told, plain_lean(book), book)
            self.assertIsNone(parting(tuple(book[number] for number in told), book))
            found[len(book) - len(told)] = True
        self.assertTrue(len(found) >= 4, found)


class ThreeHundred(unittest.TestCase):
    def refused(self, call, *things):
        with self.assertRaises(TooMany) as caught:
            call(*things)
        self.assertEqual(caught.exception.limit, 300)

    def all_refused(self, book):
        self.refused(table, book)
        self.refused(lean, book)
        self.refused(row_for, book, (), "A")
        self.refused(row_for, book, ("A",), "A")
        self.refused(parting, book, ())
        self.refused(parting, (), book)
        self.refused(parting, book, book)

    def test_numbers(self):
        for many, book in COUNTED.items():
            self.assertEqual(plain_count(book, 1000), many)
        self.assertEqual(plain_count(FEW_ROWS, 1000), 300)

    def test_up_to_three_hundred_let(self):
        for many in (299, 300):
            book = COUNTED[many]
            self.assertEqual(table(book), plain_table(book))
            self.assertEqual(row_for(book, ("A",), "A"), ITSELF)
            self.assertIsNone(parting(book, book))
            self.assertIsNotNone(parting(book, ()))
            self.assertEqual(table(tuple(book[number] for number in lean(book))), table(book))
        self.assertEqual(len(table(COUNTED[300])), 249)

    def test_more_refused(self):
        for many in (301, 307):
            self.all_refused(COUNTED[many])

    def test_each_choice_counts_not_each_row(self):
        self.assertEqual(len(table(FEW_ROWS)), 9)
        more = FEW_ROWS + (("e", ("Q", "c"), ()),)
        self.assertEqual(plain_count(more, 1000), 301)
        self.all_refused(more)

    def test_very_many(self):
        # These have more open ways than could ever be counted, yet are refused at once.
        for book in ((("x", ("", "a"), (("", "a"),) * 3),) * 6, (("x", ("A", ""), (("A", ""), ("B", ""), ("C", ""))),) * 6,
                     (("x", ("", "a"), ("a", "a", "a")),) * 6):
            self.all_refused(book)

    def test_against_the_words(self):
        chance = random.Random(38)
        told = {True: 0, False: 0}
        for _ in range(400):
            book = random_book(chance, chance.randrange(3, 7))
            right = plain_count(book, 301) <= 300
            told[right] += 1
            if right:
                table(book)
            else:
                self.refused(table, book)
        self.assertTrue(min(told.values()) > 50, told)


if __name__ == "__main__":
    unittest.main()
