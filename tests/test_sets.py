"""Least sets and barriers: point 8 and the section of stage 4."""

import itertools
import random
import unittest

from stemrules.books import are_files, kin
from stemrules.errors import TooMany
from stemrules.names import in_order
from stemrules.sets import barrier, barriers, least_sets, shows_barrier
from stemrules.ways import can
from tests.second import plain_barriers, plain_least_sets, plain_shows_barrier, subsets
from tests.things import ODD, changed, random_book, random_files

BOOK = (("link", ("", "exe"), (("", "o"), "LIBa")), ("cc", ("", "o"), (("", "c"),)))
MEXE = ("Mc", "Mo", "LIBa", "Mexe")
NAMES = ("A", "a", "Aa", "ABba", "BAab", "AABBbbaa", "Bb")

# Four rules with three different sources each make twelve other kin of the name a: thirteen in all.
WIDE = tuple(("x", ("", "a"), tuple(("", one + other) for other in "xyz")) for one in "bcde")
TWELVE = WIDE[:3] + (("x", ("", "a"), (("", "ex"), ("", "ey"))),)


def cases(seed, many, most):
    """Books and names with few kin, and these."""
    chance = random.Random(seed)
    while many:
        book = random_book(chance, chance.randrange(7))
        name = chance.choice(NAMES)
        names = kin(book, name)
        if len(names) <= most:
            many -= 1
            yield chance, book, name, names


class LeastSets(unittest.TestCase):
    def test_ordinary(self):
        self.assertEqual(least_sets(BOOK, "Mexe"), [("Mexe",), ("Mc", "LIBa"), ("Mo", "LIBa")])
        self.assertEqual(least_sets(BOOK, "Mo"), [("Mc",), ("Mo",)])
        self.assertEqual(least_sets(BOOK, "Mc"), [("Mc",)])

    def test_empty_book(self):
        self.assertEqual(least_sets((), "Mexe"), [("Mexe",)])

    def test_made_of_nothing(self):
        self.assertEqual(least_sets((("x", ("A", ""), ()),), "Ab"), [()])
        self.assertEqual(least_sets((("x", ("A", ""), (("B", ""),)), ("y", ("B", ""), ())), "Ab"), [()])
        self.assertEqual(least_sets((("x", ("A", ""), (("B", ""), ("C", ""))), ("y", ("B", ""), ())), "Ab"), [("Ab",), ("Cb",)])

    def test_chain_that_comes_back_to_the_name(self):
        book = (("x", ("A", ""), (("B", ""),)), ("y", ("B", ""), (("A", ""),)))
        self.assertEqual(least_sets(book, "Ab"), [("Ab",), ("Bb",)])

    def test_rule_that_is_spent(self):
        book = (("x", ("", "a"), (("", "aa"),)),)
        self.assertEqual(least_sets(book, "a"), [("a",), ("aa",)])
        self.assertEqual(least_sets(book * 2, "a"), [("a",), ("aa",), ("aaa",)])

    def test_in_order_by_numbers_of_names_then_name_by_name(self):
        choices = (("bb", "a"), ("c", "aa"), ("b", "c", "d"), ("dddd",), ("zz", "a"))
        book = tuple(("x", ("Z", "z"), sources) for sources in choices)
        self.assertEqual(least_sets(book, "Zz"), [("Zz",), ("dddd",), ("a", "bb"), ("a", "zz"), ("c", "aa"), ("b", "c", "d")])

    def test_source_that_stands_twice(self):
        self.assertEqual(least_sets((("x", ("A", ""), ("B", "B", ("B", ""))),), "A"), [("A",), ("B",)])

    def test_against_all_sets(self):
        for chance, book, name, names in cases(21, 500, 8):
            found = least_sets(book, name)
            self.assertEqual(found, plain_least_sets(book, name, names), (book, name))

    def test_twelve_kin_against_all_sets(self):
        self.assertEqual(len(kin(TWELVE, "a")), 12)
        self.assertEqual(least_sets(TWELVE, "a"), plain_least_sets(TWELVE, "a", kin(TWELVE, "a")))
        many = 0
        for chance, book, name, names in cases(22, 2000, 12):
            if len(names) > 10:
                many += 1
                found = least_sets(book, name)
                for one in found:
                    self.assertTrue(can(book, one, name))
                    self.assertFalse(any(can(book, one[:at] + one[at + 1:], name) for at in range(len(one))))
                for _ in range(30):
                    files = random_files(chance, names, 12)
                    self.assertEqual(can(book, files, name), any(set(one) <= set(files) for one in found))
        self.assertGreater(many, 10)


class Barriers(unittest.TestCase):
    def test_ordinary(self):
        self.assertEqual(barriers(BOOK, "Mexe"), [("LIBa", "Mexe"), ("Mc", "Mo", "Mexe")])
        self.assertEqual(barriers(BOOK, "Mo"), [("Mc", "Mo")])
        self.assertEqual(barriers((), "Mo"), [("Mo",)])

    def test_made_of_nothing(self):
        book = (("x", ("A", ""), ()),)
        self.assertEqual(barriers(book, "Ab"), [])
        self.assertIsNone(barrier(book, (), "Ab"))
        self.assertIs(shows_barrier(book, (), "Ab", ()), False)
        self.assertIs(shows_barrier(book, (), "Ab", ("Ab",)), False)

    def test_against_all_sets(self):
        for chance, book, name, names in cases(23, 400, 7):
            self.assertEqual(barriers(book, name), plain_barriers(book, name, names), (book, name))

    def test_twelve_kin(self):
        # Each barrier meets each least set; and with all names but a least barrier's no way is there.
        for book, name in [(TWELVE, "a")] + [(book, name) for _, book, name, names in cases(24, 1500, 12) if len(names) > 10]:
            names = kin(book, name)
            sets = least_sets(book, name)
            for one in barriers(book, name):
                self.assertTrue(all(set(one) & set(other) for other in sets))
                self.assertFalse(can(book, tuple(other for other in names if other not in one), name))
                for at in range(len(one)):
                    self.assertTrue(can(book, tuple(other for other in names if other not in one[:at] + one[at + 1:]), name))

    def test_in_order(self):
        found = barriers(TWELVE, "a")
        self.assertEqual(found, sorted(found, key=lambda one: (len(one), [(len(name), name) for name in one])))
        self.assertEqual(len(found), 3 * 3 * 3 * 2)
        self.assertEqual(found[0], ("a", "bx", "cx", "dx", "ex"))


class Barrier(unittest.TestCase):
    def test_ordinary(self):
        self.assertEqual(barrier(BOOK, ("Mc",), "Mexe"), ("LIBa", "Mexe"))
        self.assertEqual(barrier(BOOK, ("LIBa",), "Mexe"), ("Mc", "Mo", "Mexe"))
        self.assertEqual(barrier(BOOK, (), "Mexe"), ("LIBa", "Mexe"))
        self.assertIsNone(barrier(BOOK, ("Mc", "LIBa"), "Mexe"))
        self.assertIsNone(barrier(BOOK, ("Mexe",), "Mexe"))

    def test_files_beside_the_kin(self):
        self.assertEqual(barrier(BOOK, ("Nc", "LIBo"), "Mexe"), ("LIBa", "Mexe"))
        self.assertEqual(barrier(BOOK, in_order(["LIBa", "Z", "Nc"]), "Mexe"), ("Mc", "Mo", "Mexe"))
        self.assertIsNone(barrier(BOOK, in_order(["Mc", "Z", "Nc", "LIBa"]), "Mexe"))

    def test_first_one_of_which_none_stands_there(self):
        for chance, book, name, names in cases(25, 300, 9):
            found = barriers(book, name)
            for _ in range(8):
                files = random_files(chance, names + ("Z", "z"), 11)
                right = [one for one in found if not set(one) & set(files)]
                told = barrier(book, files, name)
                self.assertEqual(told, right[0] if right else None)
                self.assertEqual(told is None, can(book, files, name))
                if told is not None:
                    self.assertIs(shows_barrier(book, files, name, told), True)


class ShowsBarrier(unittest.TestCase):
    def test_least_or_not(self):
        self.assertIs(shows_barrier(BOOK, ("Mc",), "Mexe", ("LIBa", "Mexe")), True)
        self.assertIs(shows_barrier(BOOK, ("Mc",), "Mexe", ("Mo", "LIBa", "Mexe")), True)
        self.assertIs(shows_barrier(BOOK, (), "Mexe", MEXE), True)
        self.assertIs(shows_barrier(BOOK, (), "Mexe", ("Mexe",)), False)
        self.assertIs(shows_barrier(BOOK, (), "Mexe", ("Mo", "Mexe")), False)
        self.assertIs(shows_barrier(BOOK, (), "Mexe", ()), False)

    def test_one_that_stands_in_the_files(self):
        self.assertIs(shows_barrier(BOOK, ("Mo",), "Mexe", ("Mo", "LIBa", "Mexe")), False)
        self.assertIs(shows_barrier(BOOK, ("Mc",), "Mexe", ("Mo", "LIBa", "Mexe")), True)
        self.assertIs(shows_barrier(BOOK, ("Mexe",), "Mexe", ("LIBa", "Mexe")), False)

    def test_names_beside_the_kin(self):
        self.assertIs(shows_barrier(BOOK, (), "Mexe", ("Z", "LIBa", "Mexe")), False)
        self.assertIs(shows_barrier(BOOK, (), "Mo", ("Mc", "Mo")), True)
        self.assertIs(shows_barrier(BOOK, (), "Mo", ("Mc", "Mo", "Mexe")), False)

    def test_order_and_form(self):
        for thing in (("Mexe", "LIBa"), ("LIBa", "LIBa", "Mexe"), ["LIBa", "Mexe"], "LIBa", {"LIBa": True, "Mexe": True},
                      (("LIBa", "Mexe"),), ("LIBa", "Mexe", None), ("LIBa", ("Mexe",)), ("LIBa", ["Mexe"]), {}, None):
            self.assertIs(shows_barrier(BOOK, (), "Mexe", thing), False, thing)

    def test_every_set_of_kin(self):
        for chance, book, name, names in cases(26, 60, 6):
            for files in [(), (name,), random_files(chance, names, 6)]:
                for some in subsets(names):
                    right = plain_shows_barrier(book, files, name, names, some)
                    self.assertIs(shows_barrier(book, files, name, some), right, (book, files, name, some))

    def test_any_object(self):
        for book, files, name in ((BOOK, (), "Mexe"), ((), (), "A"), ((("x", ("A", ""), ()),), (), "A"), (BOOK, ("LIBa",), "Mexe")):
            for at, thing in enumerate(ODD):
                right = plain_shows_barrier(book, files, name, kin(book, name), thing)
                self.assertIs(shows_barrier(book, files, name, thing), right, at)

    def test_bent_at_one_place(self):
        shown = 0
        for right in (("LIBa", "Mexe"), ("Mc", "Mo", "Mexe"), MEXE):
            for at, thing in enumerate(changed(right)):
                told = shows_barrier(BOOK, (), "Mexe", thing)
                self.assertIs(told, plain_shows_barrier(BOOK, (), "Mexe", MEXE, thing), at)
                shown += told
        self.assertGreater(shown, 0)


class TwelveKin(unittest.TestCase):
    CALLS = (lambda book, name: least_sets(book, name), lambda book, name: barriers(book, name),
             lambda book, name: barrier(book, (), name), lambda book, name: shows_barrier(book, (), name, ("A",)))

    def refused(self, book, name):
        for call in self.CALLS:
            with self.assertRaises(TooMany) as caught:
                call(book, name)
            self.assertEqual(caught.exception.limit, 12)

    def test_twelve_and_thirteen(self):
        self.assertEqual([len(kin(TWELVE, "a")), len(kin(WIDE, "a"))], [12, 13])
        for call in self.CALLS:
            call(TWELVE, "a")
        self.refused(WIDE, "a")

    def test_names_count_once(self):
        book = TWELVE + (("x", ("", "a"), (("", "ex"), ("", "a"), "bx")),)
        self.assertEqual(len(kin(book, "a")), 12)
        self.assertEqual(len(least_sets(book, "a")), len(least_sets(TWELVE, "a")))
        self.refused(TWELVE + (("x", ("", "a"), ("bx", "cx", "C")),), "a")

    def test_kin_at_the_end_of_chains(self):
        for many in (5, 6):
            self.assertEqual(len(least_sets((("x", ("", "a"), (("", "aa"),)),) * many, "a")), many + 1)
        chains = (("x", ("", "a"), (("", "aa"),)),) * 4 + (("y", ("", "aaa"), (("B", ""), ("C", ""), ("D", ""))),)
        self.assertGreater(len(kin(chains, "a")), 12)
        self.refused(chains, "a")

    def test_it_hangs_on_the_name(self):
        self.assertEqual(least_sets(WIDE, "b"), [("b",)])
        self.refused(WIDE, "Za")

    def test_also_for_names_that_can_be_made(self):
        for files in (("a",), ("bx", "by", "bz")):
            with self.assertRaises(TooMany):
                barrier(WIDE, files, "a")
            with self.assertRaises(TooMany):
                shows_barrier(WIDE, files, "a", None)

    def test_very_many_kin(self):
        ends = [("A" + one + other, "") for one in "BCDEFG" for other in "HIJ"]
        self.refused(tuple(("x", ("A", ""), tuple(ends[at:at + 3])) for at in range(0, 18, 3)), "A")


class Passed(unittest.TestCase):
    def test_lists_are_new(self):
        for call in (least_sets, barriers):
            one, other = call(BOOK, "Mexe"), call(BOOK, "Mexe")
            self.assertIsNot(one, other)
            before = list(other)
            one.clear()
            self.assertEqual((other, call(BOOK, "Mexe")), (before, before))

    def test_what_is_told_are_sets_of_files(self):
        for chance, book, name, names in cases(27, 100, 12):
            for one in itertools.chain(least_sets(book, name), barriers(book, name)):
                self.assertTrue(are_files(one))
                self.assertTrue(set(one) <= set(names))


if __name__ == "__main__":
    unittest.main()
