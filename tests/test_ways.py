"""Ways, what they make, blocks, and what shows_way and shows_block tell: point 6 and the section of stage 3."""

import random
import unittest

from stemrules.books import kin
from stemrules.names import in_order
from stemrules.ways import block, can, made_by, shows_block, shows_way, way
from tests.second import plain_made_by, plain_shows_block, plain_shows_way, plain_way
from tests.things import ODD, changed, random_files

LINK, COMPILE = ("link", ("", "exe"), (("", "o"), "LIBa")), ("cc", ("", "o"), (("", "c"),))
BOOK = (LINK, COMPILE)
MEXE = ("Mexe", "link", ("Mo", "cc", ("Mc",)), ("LIBa",))


def chained_book(chance):
    """A book whose rules are often behind one another, with few labels."""
    ends = [("A", ""), ("", "a"), ("B", ""), ("", "b"), ("A", "a"), ("AB", ""), ("", "ab")]
    rules = []
    for _ in range(chance.randrange(2, 7)):
        sources = [chance.choice(ends + ["A", "Ba"]) for _ in range(chance.choice([0, 1, 1, 1, 2, 2, 3]))]
        rules.append((chance.choice("xxy"), chance.choice(ends[:5]), tuple(sources)))
    return tuple(rules)


def cases(seed, many):
    """Books, files and names, so that many names have a way."""
    chance = random.Random(seed)
    for _ in range(many):
        book = chained_book(chance)
        name = chance.choice(["ABab", "AA", "Aa", "BBAaba", "AABBaabb"])
        names = kin(book, name)
        if len(names) < 500:
            likely = [one for one in names if one != name and chance.random() < 0.5] + ["Z"]
            yield chance, book, random_files(chance, likely, chance.choice([1, 2, 3, 6, 30])), name


def bent(chance, thing):
    """A thing with one part, somewhere, bent."""
    if isinstance(thing, (tuple, list)) and len(thing) > 0 and chance.random() < 0.8:
        at = chance.randrange(len(thing))
        return thing[:at] + type(thing)([bent(chance, thing[at])]) + thing[at + 1:]
    if isinstance(thing, (tuple, list)):
        return chance.choice([thing[:-1], thing[::-1], thing + thing[-1:], thing[1:], (thing,)])
    if isinstance(thing, int):
        return chance.choice([thing + 1, thing - 1, bool(thing)])
    return chance.choice(["x", "y", "A", "Ba", thing + "a", "A" + thing, thing[1:], thing[:-1]])


class Ways(unittest.TestCase):
    def test_ordinary(self):
        self.assertEqual(way(BOOK, ("Mc", "LIBa"), "Mexe"), MEXE)
        self.assertEqual(way(BOOK, ("Mo", "LIBa"), "Mexe"), ("Mexe", "link", ("Mo",), ("LIBa",)))
        self.assertEqual(way(BOOK, ("Mc",), "Mo"), ("Mo", "cc", ("Mc",)))
        self.assertIsNone(way(BOOK, ("Mc",), "Mexe"))
        self.assertIsNone(way(BOOK, ("LIBa",), "Mexe"))

    def test_name_in_the_files(self):
        self.assertEqual(way(BOOK, ("Mexe",), "Mexe"), ("Mexe",))
        self.assertEqual(way(BOOK, in_order(["Mc", "Mo", "LIBa", "Mexe"]), "Mexe"), ("Mexe",))
        self.assertEqual(way((("x", ("A", ""), ()),), ("A",), "A"), ("A",))
        # Within a way, too: no rule makes a file.
        self.assertEqual(way(BOOK, in_order(["Mc", "Mo", "LIBa"]), "Mexe")[2], ("Mo",))

    def test_empty_book(self):
        self.assertIsNone(way((), (), "Mo"))
        self.assertIsNone(way((), ("Mc",), "Mo"))
        self.assertEqual(way((), ("Mc",), "Mc"), ("Mc",))

    def test_no_files(self):
        self.assertIsNone(way(BOOK, (), "Mexe"))
        self.assertEqual(way((("x", ("A", ""), ()),), (), "Ab"), ("Ab", "x"))
        book = (("x", ("A", ""), (("B", ""), ("C", ""))), ("y", ("", "b"), ()))
        self.assertEqual(way(book, (), "Ab"), ("Ab", "y"))
        self.assertEqual(way((book[0],) + (("z", ("B", ""), ()), ("z", ("C", ""), ())), (), "Ab"),
                         ("Ab", "x", ("Bb", "z"), ("Cb", "z")))

    def test_first_rule_in_order(self):
        book = (("x", ("", "a"), (("", "b"),)), ("y", ("", "a"), (("", "c"),)))
        self.assertEqual(way(book, ("b", "c"), "a"), ("a", "x", ("b",)))
        self.assertEqual(way(book[::-1], ("b", "c"), "a"), ("a", "y", ("c",)))
        self.assertEqual(way(book, ("c",), "a"), ("a", "y", ("c",)))

    def test_rules_with_all_sources_in_the_files_come_ahead(self):
        book = (("x", ("", "a"), (("", "b"),)), ("y", ("", "b"), (("", "c"),)), ("z", ("", "a"), (("", "d"),)))
        self.assertEqual(way(book, ("c",), "a"), ("a", "x", ("b", "y", ("c",))))
        self.assertEqual(way(book, ("c", "d"), "a"), ("a", "z", ("d",)))
        self.assertEqual(way(book, ("b", "c", "d"), "a"), ("a", "x", ("b",)))

    def test_some_sources_in_the_files_are_not_all(self):
        book = (("x", ("", "a"), (("", "b"),)), ("y", ("", "a"), (("", "c"), ("", "d"))),
                ("z", ("", "b"), (("", "e"),)), ("z", ("", "d"), (("", "e"),)))
        self.assertEqual(way(book, ("c", "e"), "a"), ("a", "x", ("b", "z", ("e",))))
        self.assertEqual(way(book, ("c", "d", "e"), "a"), ("a", "y", ("c",), ("d",)))

    def test_rule_without_sources_is_among_the_first_ones(self):
        book = (("x", ("", "a"), (("", "b"),)), ("y", ("", "a"), ()), ("z", ("", "b"), (("", "c"),)))
        self.assertEqual(way(book, ("c",), "a"), ("a", "y"))
        self.assertEqual(way(book, ("b",), "a"), ("a", "x", ("b",)))

    def test_rules_ahead_hold_at_each_place_of_a_chain(self):
        book = (("w", ("", "e"), (("", "a"),)), ("x", ("", "a"), (("", "b"),)), ("y", ("", "b"), (("", "c"),)),
                ("z", ("", "a"), (("", "d"),)))
        self.assertEqual(way(book, ("c", "d"), "e"), ("e", "w", ("a", "z", ("d",))))
        self.assertEqual(way(book, ("c",), "e"), ("e", "w", ("a", "x", ("b", "y", ("c",)))))

    def test_rule_is_spent_in_its_chain(self):
        book = (("x", ("", "a"), (("", "aa"),)),)
        self.assertEqual(way(book, ("aa",), "a"), ("a", "x", ("aa",)))
        self.assertIsNone(way(book, ("aaa",), "a"))
        self.assertEqual(way(book * 2, ("aaa",), "a"), ("a", "x", ("aa", "x", ("aaa",))))
        self.assertIsNone(way(book * 2, ("aaaa",), "a"))
        self.assertIsNotNone(way(book * 6, ("aaaaaaa",), "a"))
        self.assertIsNone(way(book * 6, ("aaaaaaaa",), "a"))

    def test_rule_is_spent_in_its_chain_alone(self):
        # Both sources are made by the same rule, each in a chain of its own.
        book = (("x", ("A", ""), (("B", ""), ("C", ""))), ("y", ("", "a"), (("", "b"),)))
        self.assertEqual(way(book, ("Bb", "Cb"), "Aa"), ("Aa", "x", ("Ba", "y", ("Bb",)), ("Ca", "y", ("Cb",))))

    def test_what_is_spent_hangs_on_the_chain(self):
        # By itself ba has a way, but below a, where the rule is spent, it has none.
        book = (("x", ("", "a"), (("", "ba"),)), ("y", ("", "c"), (("", "ba"), ("", "a"))))
        self.assertEqual(way(book, ("bba",), "ba"), ("ba", "x", ("bba",)))
        self.assertIsNone(way(book, ("bba",), "a"))
        self.assertIsNone(way(book, ("bba",), "c"))
        more = book + (("z", ("", "ba"), (("", "bba"),)),)
        self.assertEqual(way(more, ("bba",), "a"), ("a", "x", ("ba", "z", ("bba",))))
        self.assertEqual(way(more, ("bba",), "c"), ("c", "y", ("ba", "x", ("bba",)), ("a", "x", ("ba", "z", ("bba",)))))

    def test_chain_that_comes_back_to_the_name(self):
        there_and_back = (("x", ("A", ""), (("B", ""),)), ("y", ("B", ""), (("A", ""),)))
        self.assertIsNone(way(there_and_back, (), "Ab"))
        self.assertEqual(way(there_and_back, ("Bb",), "Ab"), ("Ab", "x", ("Bb",)))
        book = there_and_back + (("z", ("A", ""), (("C", ""),)), ("w", ("C", ""), (("D", ""),)))
        self.assertEqual(way(book, ("Db",), "Ab"), ("Ab", "x", ("Bb", "y", ("Ab", "z", ("Cb", "w", ("Db",))))))
        self.assertEqual(way(book, ("Cb",), "Ab"), ("Ab", "z", ("Cb",)))
        self.assertIsNone(way((("x", ("A", ""), (("A", ""),)),), (), "A"))

    def test_way_hangs_on_kin_alone(self):
        for chance, book, files, name in cases(11, 150):
            names = kin(book, name)
            for beside in (("Z",), ("Zq", "ZZZz"), ("Q", "z", "Qz")):
                self.assertFalse(set(beside) & set(names))
                more = in_order(list(files + beside))
                told = way(book, files, name)
                self.assertEqual(way(book, more, name), told)
                self.assertEqual(way(book, in_order([file for file in files if file in names]), name), told)

    def test_long_names(self):
        name = "A" + "b" * 39
        book = (("x", ("A", ""), (("ABC", "def"),)),) * 6
        last = kin(book, name)[-1]
        told = way(book, (last,), name)
        for many in range(7):
            self.assertEqual(told[0], "A" + "BC" * many + "b" * 39 + "def" * many)
            told = told[-1]
        self.assertEqual(way(book, (kin(book, last)[1],), last), (last, "x", (kin(book, last)[1],)))

    def test_can(self):
        self.assertIs(can(BOOK, ("Mc",), "Mo"), True)
        self.assertIs(can(BOOK, ("Mo",), "Mo"), True)
        self.assertIs(can(BOOK, ("Mc",), "Mexe"), False)
        self.assertIs(can((("x", ("A", ""), ()),), (), "A"), True)

    def test_against_the_words(self):
        ways = 0
        for chance, book, files, name in cases(12, 1200):
            told = way(book, files, name)
            self.assertEqual(told, plain_way(book, files, name), (book, files, name))
            self.assertIs(can(book, files, name), told is not None)
            self.assertEqual(made_by(book, files, name), plain_made_by(book, files, name), (book, files, name))
            ways += told is not None
        self.assertTrue(300 < ways < 1000)

    def test_wide_book(self):
        # All chains lead to different names, 732,529 of them; none of them is there.
        ends = [("A" + one + other, "") for one in "BCDEFG" for other in "HIJ"]
        book = tuple(("x", ("A", ""), tuple(ends[at:at + 3])) for at in range(0, 18, 3))
        self.assertIsNone(way(book, (), "A"))
        told = block(book, (), "A")
        self.assertEqual(len(told), 1957)
        self.assertIs(shows_block(book, (), "A", told), True)


class Made(unittest.TestCase):
    def test_ordinary(self):
        self.assertEqual(made_by(BOOK, ("Mc", "LIBa"), "Mexe"), ["Mo", "Mexe"])
        self.assertEqual(made_by(BOOK, ("Mo", "LIBa"), "Mexe"), ["Mexe"])

    def test_no_way_or_there(self):
        self.assertEqual(made_by(BOOK, ("Mc",), "Mexe"), [])
        self.assertEqual(made_by(BOOK, ("Mexe",), "Mexe"), [])
        self.assertEqual(made_by((), (), "Mexe"), [])

    def test_sources_first_in_order(self):
        book = (("x", ("", "a"), (("", "c"), ("", "b"))), ("y", ("", "b"), (("", "d"),)), ("z", ("", "c"), (("", "e"),)))
        self.assertEqual(made_by(book, ("d", "e"), "Aa"), [])
        self.assertEqual(made_by(book, ("Ad", "Ae"), "Aa"), ["Ac", "Ab", "Aa"])

    def test_each_name_once(self):
        book = (("x", ("", "a"), (("", "b"), ("", "c"))), ("y", ("", "b"), ("D",)), ("z", ("", "c"), ("D", ("", "e"))),
                ("w", ("D", ""), ("F",)))
        self.assertEqual(made_by(book, ("F", "Ae"), "Aa"), ["D", "Ab", "Ac", "Aa"])

    def test_name_made_before_is_not_made_again_nor_its_sources(self):
        # Below ABaa, where x is spent, ABABa has another way; but by then it is there, so BABb is not made.
        book = (("x", ("", "a"), (("AB", ""),)), ("y", ("", "b"), (("AB", ""), ("", "a"))), ("z", ("B", ""), ()),
                ("w", ("A", "a"), (("", "b"),)))
        first, second = ("ABABa", "x", ("ABABAB",)), ("ABABa", "w", ("BABb", "z"))
        self.assertEqual(way(book, ("ABABAB",), "ABab"), ("ABab", "y", first, ("ABaa", "x", second)))
        self.assertEqual(made_by(book, ("ABABAB",), "ABab"), ["ABABa", "ABaa", "ABab"])

    def test_name_within_its_own_way(self):
        # The inner Ab is made, by z; all sources of the outer one nevertheless: Eb is one of them.
        book = (("x", ("A", ""), (("B", ""), ("E", ""))), ("y", ("B", ""), (("A", ""),)), ("z", ("A", ""), (("C", ""),)),
                ("w", ("C", ""), (("D", ""),)), ("v", ("E", ""), (("D", ""),)))
        self.assertEqual(way(book, ("Db",), "Ab")[2][2], ("Ab", "z", ("Cb", "w", ("Db",))))
        self.assertEqual(made_by(book, ("Db",), "Ab"), ["Cb", "Ab", "Bb", "Eb"])

    def test_rule_without_sources(self):
        self.assertEqual(made_by((("x", ("A", ""), ()),), (), "A"), ["A"])

    def test_lists_are_new(self):
        one = made_by(BOOK, ("Mc", "LIBa"), "Mexe")
        one.append("Z")
        self.assertEqual(made_by(BOOK, ("Mc", "LIBa"), "Mexe"), ["Mo", "Mexe"])
        self.assertIsNot(made_by((), (), "A"), made_by((), (), "A"))


class ShowsWay(unittest.TestCase):
    def shown(self, book, files, name, thing, right):
        self.assertIs(shows_way(book, files, name, thing), right, thing)
        self.assertIs(plain_shows_way(book, files, name, thing), right, thing)

    def test_ordinary(self):
        self.shown(BOOK, ("Mc", "LIBa"), "Mexe", MEXE, True)
        self.shown(BOOK, ("Mc", "LIBa"), "Mo", ("Mo", "cc", ("Mc",)), True)
        self.shown(BOOK, ("Mc", "LIBa"), "Mc", ("Mc",), True)
        self.shown(BOOK, ("Mc", "LIBa"), "Mo", ("Mo",), False)

    def test_file_may_be_made_all_the_same(self):
        self.shown(BOOK, ("Mc", "Mo"), "Mo", ("Mo", "cc", ("Mc",)), True)
        self.shown(BOOK, ("Mc", "Mo"), "Mo", ("Mo",), True)
        self.shown(BOOK, in_order(["Mc", "Mo", "LIBa", "Mexe"]), "Mexe", MEXE, True)

    def test_ways_that_are_not_told(self):
        book = (("x", ("", "a"), (("", "b"),)), ("y", ("", "a"), (("", "c"),)))
        self.shown(book, ("b", "c"), "a", ("a", "x", ("b",)), True)
        self.shown(book, ("b", "c"), "a", ("a", "y", ("c",)), True)
        self.shown(book, ("b", "c"), "a", ("a", "y", ("b",)), False)
        self.shown(book, ("b", "c"), "a", ("a", "x", ("c",)), False)
        self.shown(book, ("b",), "a", ("a", "y", ("c",)), False)

    def test_way_of_another_name(self):
        self.shown(BOOK, ("Mc", "LIBa"), "Mexe", ("Mo", "cc", ("Mc",)), False)
        self.shown(BOOK, ("Mc", "LIBa"), "Mo", MEXE, False)

    def test_sources_in_order_and_all(self):
        name, label, one, other = MEXE
        for thing in ((name, label), (name, label, one), (name, label, other), (name, label, other, one),
                      (name, label, one, other, other), (name, label, one, one), (name, label, "Mo", "LIBa"),
                      (name, label, (one, other)), (name, label, [*one], other), [name, label, one, other], (name, one, other)):
            self.shown(BOOK, ("Mc", "LIBa"), "Mexe", thing, False)

    def test_rule_without_sources(self):
        book = (("x", ("A", ""), ()), ("y", ("A", ""), ("B",)))
        self.shown(book, (), "A", ("A", "x"), True)
        self.shown(book, (), "A", ("A",), False)
        self.shown(book, (), "A", ("A", "y"), False)
        self.shown(book, (), "A", ("A", "x", ()), False)
        self.shown(book, (), "B", ("B", "x"), False)

    def test_no_rule_twice_in_one_chain(self):
        book = (("x", ("", "a"), (("", "aa"),)),)
        self.shown(book, ("aaa",), "a", ("a", "x", ("aa", "x", ("aaa",))), False)
        self.shown(book * 2, ("aaa",), "a", ("a", "x", ("aa", "x", ("aaa",))), True)
        self.shown(book * 2, ("aaaa",), "a", ("a", "x", ("aa", "x", ("aaa", "x", ("aaaa",)))), False)
        two = (("x", ("A", ""), (("B", ""), ("C", ""))), ("y", ("", "a"), (("", "b"),)))
        self.shown(two, ("Bb", "Cb"), "Aa", ("Aa", "x", ("Ba", "y", ("Bb",)), ("Ca", "y", ("Cb",))), True)

    def test_rules_with_the_same_label(self):
        book = (("x", ("A", ""), (("", "a"),)), ("x", ("", "a"), (("", "aa"),)))
        self.shown(book, ("aa",), "a", ("a", "x", ("aa",)), True)
        self.shown(book, ("a",), "A", ("A", "x", ("a",)), True)
        self.shown(book, ("aa",), "A", ("A", "x", ("aa",)), False)
        self.shown(book, ("aa",), "A", ("A", "x", ("a", "x", ("aa",))), True)
        both = (("x", ("B", ""), (("B", ""),)), ("x", ("", "b"), (("", "b"),)), ("x", ("B", "b"), (("B", "b"),)))
        thing = ("Bb",)
        for many in range(5):
            self.shown(both, ("Bb",), "Bb", thing, many <= 3)
            thing = ("Bb", "x", thing)

    def test_which_rule_is_chosen_above_hangs_on_what_is_below(self):
        # Two rules x make Ba of Aa twice; what is below may leave only one of them to be the outer one.
        book = (("x", ("B", ""), (("A", ""), ("A", ""))), ("x", ("", "a"), ("Aa", "Aa")), ("y", ("A", ""), (("C", ""),)),
                ("x", ("C", ""), ()), ("x", ("", "b"), ()))
        inner = ("Aa", "y", ("Ca", "x"))
        self.shown(book, (), "Ba", ("Ba", "x", inner, inner), True)
        again = ("Aa", "x", ("Aa",), ("Aa",))
        self.shown(book, ("Aa",), "Ba", ("Ba", "x", again, again), True)
        self.shown(book, ("Aa",), "Ba", ("Ba", "x", again, ("Aa",)), True)
        self.shown(book, ("Aa",), "Ba", ("Ba", "x", ("Aa", "x", again, again), ("Aa",)), False)

    def test_empty_book_and_no_files(self):
        self.shown((), (), "A", ("A",), False)
        self.shown((), ("A",), "A", ("A",), True)
        self.shown((), ("A",), "A", ("A", "x"), False)

    def test_any_object(self):
        for book, files, name in ((BOOK, ("Mc", "LIBa"), "Mexe"), ((("x", ("A", ""), ()),), (), "A"), ((), ("A",), "A")):
            for at, thing in enumerate(ODD):
                self.assertIs(shows_way(book, files, name, thing), plain_shows_way(book, files, name, thing), at)

    def test_bent_at_one_place(self):
        right = 0
        for files in (("Mc", "LIBa"), in_order(["Mc", "Mo", "LIBa", "Mexe"])):
            for at, thing in enumerate(changed(MEXE)):
                shown = shows_way(BOOK, files, "Mexe", thing)
                self.assertIs(shown, plain_shows_way(BOOK, files, "Mexe", thing), at)
                right += shown
        self.assertGreater(right, 0)

    def test_told_ways_are_shown_and_bent_ones_as_the_words_say(self):
        told = {True: 0, False: 0}
        for chance, book, files, name in cases(13, 800):
            thing = way(book, files, name)
            if thing is not None:
                self.assertIs(shows_way(book, files, name, thing), True)
                for _ in range(10):
                    other = bent(chance, thing)
                    shown = shows_way(book, files, name, other)
                    self.assertIs(shown, plain_shows_way(book, files, name, other), (book, files, name, other))
                    told[shown] += 1
        self.assertTrue(min(told.values()) > 100, told)

    def test_very_large_things(self):
        # A part that is shared a great many times, and one that is very deep.
        thing = ("A",)
        for _ in range(20):
            thing = ("A", "x", thing, thing, thing)
        book = (("x", ("A", ""), (("A", ""),) * 3),) * 6
        self.assertIs(shows_way(book, ("A",), "A", thing), False)
        thing = ("A",)
        for _ in range(6):
            thing = ("A", "x", thing, thing, thing)
        self.assertIs(shows_way(book, ("A",), "A", thing), True)
        self.assertIs(shows_way(book[1:], ("A",), "A", thing), False)
        deep = ("A",)
        for _ in range(30000):
            deep = ("A", "x", deep, deep, deep)
        self.assertIs(shows_way(book, ("A",), "A", deep), False)
        self.assertIs(shows_way(book, ("A",), "A", ("A", "x") + (("A",),) * 99000), False)


class Blocks(unittest.TestCase):
    def shown(self, book, files, name, thing, right):
        self.assertIs(shows_block(book, files, name, thing), right, thing)
        self.assertIs(plain_shows_block(book, files, name, thing), right, thing)

    def test_none_if_it_can_be_made(self):
        self.assertIsNone(block(BOOK, ("Mc",), "Mo"))
        self.assertIsNone(block(BOOK, ("Mo",), "Mo"))
        self.assertIsNone(block((("x", ("A", ""), ()),), (), "A"))

    def test_ordinary(self):
        self.shown(BOOK, ("Mc",), "Mexe", block(BOOK, ("Mc",), "Mexe"), True)
        self.shown(BOOK, (), "Mexe", block(BOOK, (), "Mexe"), True)
        self.assertEqual(block((), (), "A"), [("A", ())])
        self.assertEqual(block(BOOK, ("LIBa",), "Mc"), [("Mc", ())])

    def test_several_right_ones(self):
        self.shown(BOOK, ("Mc",), "Mexe", [("Mexe", ()), ("LIBa", (0,))], True)
        self.shown(BOOK, ("Mc",), "Mexe", [("LIBa", (0,)), ("Mexe", ())], True)
        self.shown(BOOK, (), "Mexe", [("Mexe", ()), ("LIBa", (0,))], True)
        self.shown(BOOK, (), "Mexe", [("Mexe", ()), ("Mo", (0,)), ("Mc", (0, 1))], True)

    def test_rows_that_nothing_asks_for_may_stand(self):
        self.shown(BOOK, ("Mc",), "Mexe", [("Mexe", ()), ("LIBa", (0,)), ("Z", (0, 1))], True)
        self.shown(BOOK, ("Mc",), "Mexe", [("Mexe", ()), ("LIBa", (0,)), ("Q" * 50, ())], True)
        self.shown(BOOK, ("Mc",), "Mexe", [("Mexe", ()), ("LIBa", (0,)), ("Zo", ())], False)
        self.shown(BOOK, ("Mc",), "Mexe", [("Mexe", ()), ("LIBa", (0,)), ("Zo", (1,))], True)

    def test_row_of_the_name(self):
        self.shown(BOOK, (), "Mo", [("Mc", (1,))], False)
        self.shown(BOOK, (), "Mo", [("Mc", (1,)), ("Mo", (1,))], False)
        self.shown(BOOK, (), "Mo", [("Mc", (1,)), ("Mo", ())], True)
        self.shown(BOOK, (), "Mo", [], False)

    def test_row_in_the_files(self):
        self.shown(BOOK, ("Mc",), "Mo", [("Mo", ()), ("Mc", (1,))], False)
        self.shown(BOOK, ("Mo",), "Mo", [("Mo", ()), ("Mc", (1,))], False)
        self.shown(BOOK, ("Mc",), "Mexe", [("Mexe", ()), ("LIBa", (0,)), ("Mc", ())], False)

    def test_rows_missing(self):
        self.shown(BOOK, ("Mc",), "Mexe", [("Mexe", ())], False)
        self.shown(BOOK, (), "Mexe", [("Mexe", ()), ("Mo", (0,))], False)
        self.shown(BOOK, (), "Mexe", [("Mexe", ()), ("LIBa", ())], False)
        self.shown(BOOK, (), "Mexe", [("Mexe", ()), ("LIBa", (0, 1))], False)
        self.shown(BOOK, (), "Mexe", [("Mexe", ()), ("Mo", (0,)), ("Mc", (1,))], False)

    def test_rule_without_sources_is_held_out_by_nothing(self):
        book = (("x", ("A", ""), ()), ("y", ("", "b"), (("A", "c"),)))
        self.shown(book, (), "A", [("A", ())], False)
        self.shown(book, (), "Bb", [("Bb", ()), ("ABc", (1,))], False)
        self.shown(book, (), "Bb", [("Bb", ()), ("ABc", (0, 1))], False)

    def test_different_rows(self):
        self.shown(BOOK, ("Mc",), "Mexe", [("Mexe", ()), ("LIBa", (0,)), ("LIBa", (0,))], False)
        self.shown(BOOK, ("Mc",), "Mexe", [("Mexe", ()), ("LIBa", (0,)), ("LIBa", (1,))], True)

    def test_spent_rules_ascend_and_are_numbers(self):
        book = BOOK + (("x", ("B", ""), ()),)
        self.shown(book, (), "Mexe", [("Mexe", ()), ("Mo", (0,)), ("Mc", (0, 1))], True)
        for spent in ((1, 0), (0, 0, 1), (0, 1, 1), [0, 1], (False, 1), (0, True), (0, 3), (-1, 0, 1), ("0", 1), (0, None), 1,
                      None, ((0, 1),), (0, (1,)), {}, "01"):
            self.shown(book, (), "Mexe", [("Mexe", ()), ("Mo", (0,)), ("Mc", spent)], False)
            self.shown(book, (), "Mexe", [("Mexe", ()), ("Mo", (0,)), ("Mc", (0, 1)), ("Z", spent)], False)
        self.shown(BOOK, (), "Mexe", [("Mexe", ()), ("LIBa", (False,))], False)
        self.shown(BOOK, (), "Mo", [("Mo", ()), ("Mc", (True,))], False)

    def test_forms(self):
        right = [("Mexe", ()), ("LIBa", (0,))]
        for thing in (tuple(right), dict(right), [list(row) for row in right], right + [None], right + [()], right + [("Z",)],
                      right + [("", ())], right + [("aB", ())], right + [("Z", (), ())], [right], right[0], right + [("Z", None)]):
            self.shown(BOOK, ("Mc",), "Mexe", thing, False)

    def test_there_is_one_exactly_if_there_is_no_way(self):
        told = {True: 0, False: 0}
        blocks = 0
        for chance, book, files, name in cases(14, 1000):
            found = block(book, files, name)
            self.assertEqual(found is None, can(book, files, name))
            if found is not None:
                self.shown(book, files, name, found, True)
                blocks += 1
                for _ in range(8):
                    other = bent(chance, found)
                    shown = shows_block(book, files, name, other)
                    self.assertIs(shown, plain_shows_block(book, files, name, other), (book, files, name, other))
                    told[shown] += 1
        self.assertGreater(blocks, 300)
        self.assertTrue(min(told.values()) > 100, told)

    def test_no_list_shows_a_block_of_what_can_be_made(self):
        # All rows that the kin can have, and all lists of some of them.
        book = (("x", ("", "a"), (("", "b"),)), ("y", ("", "b"), (("", "c"),)))
        rows = [(name, spent) for name in "abc" for spent in ((), (0,), (1,), (0, 1))]
        for files in ((), ("c",), ("b",), ("a",)):
            shown = False
            for number in range(1 << len(rows)):
                some = [row for at, row in enumerate(rows) if number >> at & 1]
                shown = shows_block(book, files, "a", some) or shown
            self.assertIs(shown, not can(book, files, "a"))

    def test_any_object(self):
        for book, files, name in ((BOOK, ("Mc",), "Mexe"), ((), (), "A"), ((("x", ("A", ""), ("B",)),), (), "A")):
            for at, thing in enumerate(ODD):
                self.assertIs(shows_block(book, files, name, thing), plain_shows_block(book, files, name, thing), at)

    def test_bent_at_one_place(self):
        right = 0
        for found in ([("Mexe", ()), ("Mo", (0,)), ("Mc", (0, 1))], [("Mexe", ()), ("LIBa", (0,))]):
            for at, thing in enumerate(changed(found)):
                shown = shows_block(BOOK, (), "Mexe", thing)
                self.assertIs(shown, plain_shows_block(BOOK, (), "Mexe", thing), at)
                right += shown
        self.assertGreater(right, 0)

    def test_large_things(self):
        rows = [("Mexe", ()), ("LIBa", (0,))] + [("A" * many, (0, 1)) for many in range(1, 5000)]
        self.assertIs(shows_block(BOOK, ("Mc",), "Mexe", rows), True)
        self.assertIs(shows_block(BOOK, ("Mc",), "Mexe", rows + rows[-1:]), False)
        self.assertIs(shows_block(BOOK, ("Mc",), "Mexe", [("Mexe", ()), ("LIBa", (0,) * 99000)]), False)

    def test_lists_are_new_and_what_is_passed_stays(self):
        one = block(BOOK, ("Mc",), "Mexe")
        other = block(BOOK, ("Mc",), "Mexe")
        self.assertIsNot(one, other)
        before = list(other)
        one.clear()
        self.assertEqual(other, before)
        self.assertIs(shows_block(BOOK, ("Mc",), "Mexe", other), True)
        self.assertEqual(other, before)
        other.append(("aB", ()))
        self.assertIs(shows_block(BOOK, ("Mc",), "Mexe", other), False)
        self.assertEqual(block(BOOK, ("Mc",), "Mexe"), before)


if __name__ == "__main__":
    unittest.main()
