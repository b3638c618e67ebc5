"""Names, patterns, sources, stems and the order: points 3 and 4 and the section of stage 1."""

import copy
import itertools
import unittest

from stemrules.errors import Mismatch, NoName
from stemrules.names import in_order, is_name, is_pattern, is_source, parts, put_in, stem
from tests.things import ODD, changed, plain_name, plain_pattern, plain_source, plain_stem

WORDS = ["".join(word) for many in range(5) for word in itertools.product("AZaz", repeat=many)]
NAMES = [word for word in WORDS if plain_name(word)]
ENDS = [(begin, end) for begin in ("", "A", "AZ", "ZZA", "AAAA") for end in ("", "a", "za", "zzz", "aaaa")]
PATTERNS = [pattern for pattern in ENDS if plain_pattern(pattern)]


class Names(unittest.TestCase):
    def test_ordinary(self):
        for name in ("ABc", "A", "a", "LIBa", "Mexe", "AB", "ab", "Az", "Za", "A" * 40, "A" * 20 + "b" * 20):
            self.assertIs(is_name(name), True, name)

    def test_edges_and_wrong(self):
        for thing in ("", "aB", "AbC", "Ab ", " Ab", "A b", "Ab\n", "\n", "A1", "a_b", "A@", "A[", "a`", "a{"):
            self.assertIs(is_name(thing), False, thing)

    def test_longer_than_names_that_are_passed_as_such(self):
        self.assertIs(is_name("A" * 2500 + "b" * 2500), True)
        self.assertIs(is_name("a" * 4999 + "A"), False)

    def test_every_character(self):
        for sign in [chr(code) for code in range(32, 127)] + ["\n", "\t"]:
            self.assertIs(is_name(sign), sign.isalpha(), sign)
            self.assertIs(is_name("A" + sign), sign.isalpha(), sign)
            self.assertIs(is_name(sign + "a"), sign.isalpha(), sign)
            self.assertIs(is_name("a" + sign), sign.islower(), sign)
            self.assertIs(is_name(sign + "A"), sign.isupper(), sign)

    def test_all_short_words_and_any_object(self):
        for at, thing in enumerate(WORDS + ODD):
            self.assertIs(is_name(thing), plain_name(thing), at)

    def test_parts(self):
        self.assertEqual(parts("ABc"), ("AB", "c"))
        self.assertEqual(parts("AB"), ("AB", ""))
        self.assertEqual(parts("abc"), ("", "abc"))
        for name in NAMES:
            head, tail = parts(name)
            self.assertEqual(head + tail, name)
            self.assertTrue(set(head) <= set("AZ") and set(tail) <= set("az"), name)

    def test_parts_of_any_object(self):
        for at, thing in enumerate(ODD):
            if not plain_name(thing):
                with self.assertRaises(NoName, msg=at):
                    parts(thing)


class Patterns(unittest.TestCase):
    def test_ordinary(self):
        for thing in (("A", ""), ("", "a"), ("ABC", "def"), ("ABC", ""), ("", "def"), ("A", "b")):
            self.assertIs(is_pattern(thing), True, thing)
            self.assertIs(is_source(thing), True, thing)

    def test_edges_and_wrong(self):
        for thing in (("", ""), ("ABCD", ""), ("", "abcd"), ("ABCD", "e"), ("A", "bcde"), ("a", ""), ("", "A"), ("aA", ""),
                      ("", "aA"), ("A ", ""), ("", "a\n"), ["A", "b"], ("A",), ("A", "b", "c"), ("A", None), (True, "b")):
            self.assertIs(is_pattern(thing), False, thing)
            self.assertIs(is_source(thing), False, thing)

    def test_names_are_sources_of_any_length(self):
        for name in ("X", "x", "ABCDEF", "ABCDEFG", "A" * 40, "A" * 2500 + "b" * 2500):
            self.assertIs(is_source(name), True)
            self.assertIs(is_pattern(name), False)
        self.assertIs(is_source(""), False)
        self.assertIs(is_source("xY"), False)

    def test_any_object(self):
        for right in (("AB", "c"), ("ABC", "def"), ("", "a"), ("A", ""), "Xy", "ABCDEF"):
            for at, thing in enumerate(changed(right)):
                self.assertIs(is_pattern(thing), plain_pattern(thing), (right, at))
                self.assertIs(is_source(thing), plain_source(thing), (right, at))


class Stems(unittest.TestCase):
    def test_ordinary(self):
        self.assertEqual(stem(("A", "c"), "ABc"), "B")
        self.assertEqual(stem(("", "exe"), "Mexe"), "M")
        self.assertEqual(stem(("AB", ""), "ABCde"), "Cde")
        self.assertEqual(stem(("A", "c"), "ABbc"), "Bb")

    def test_empty_stem_is_no_misfit(self):
        self.assertEqual(stem(("A", "c"), "Ac"), "")
        self.assertEqual(stem(("ABC", ""), "ABC"), "")
        self.assertEqual(stem(("", "abc"), "abc"), "")

    def test_misfits(self):
        for pattern, name in ((("B", ""), "Ac"), (("A", ""), "a"), (("", "a"), "A"), (("", "b"), "Ab" + "c"),
                              (("AB", ""), "A"), (("", "ab"), "b"), (("AB", "cd"), "Ad"), (("A", "b"), "A"),
                              (("AAA", "bbb"), "AAbbb"), (("AAA", "bbb"), "AAAbb"), (("A", "b"), "BAb")):
            self.assertIsNone(stem(pattern, name), (pattern, name))

    def test_ends_never_share_letters(self):
        self.assertIsNone(stem(("AA", "a"), "Aa"))
        self.assertIsNone(stem(("A", "aa"), "Aa"))
        self.assertEqual(stem(("AA", "aa"), "AAaa"), "")

    def test_all_short_names(self):
        for pattern in PATTERNS:
            for name in NAMES:
                self.assertEqual(stem(pattern, name), plain_stem(pattern, name), (pattern, name))

    def test_put_in(self):
        self.assertEqual(put_in(("", "dd"), "Bx"), "Bxdd")
        self.assertEqual(put_in(("A", "b"), ""), "Ab")
        self.assertEqual(put_in(("AB", ""), "Cd"), "ABCd")
        self.assertEqual(put_in("Xy", "B"), "Xy")
        self.assertEqual(put_in("Xy", ""), "Xy")
        self.assertEqual(put_in("ABCDEFGh", "B"), "ABCDEFGh")
        self.assertEqual(put_in(("", "c"), "A" * 40), "A" * 40 + "c")

    def test_put_in_turns_stem_round(self):
        for pattern in PATTERNS:
            for within in NAMES + [""]:
                name = put_in(pattern, within)
                self.assertEqual(stem(pattern, name), within)

    def test_any_object_first_error_first(self):
        # Each thing is tried as both arguments, so an error for the second one, told first, shows.
        for at, thing in enumerate(ODD):
            for nr, other in enumerate([("A", ""), "A", "", None, True, "aB", (), [], ["A", ""]] + ODD[-12:]):
                if not plain_pattern(thing):
                    self.refused(Mismatch, stem, thing, other, (at, nr))
                if not plain_source(thing):
                    self.refused(Mismatch, put_in, thing, other, (at, nr))
                if not plain_name(other):
                    self.refused(NoName if plain_pattern(thing) else Mismatch, stem, thing, other, (at, nr))
                    if other != "":
                        self.refused(Mismatch, put_in, thing, other, (at, nr))

    def refused(self, kind, call, one, other, where):
        with self.assertRaises(kind, msg=where):
            call(one, other)

    def test_wrong_names_and_stems(self):
        for thing in ("", "aB", None, True, 0, ("A", ""), ["A"]):
            with self.assertRaises(NoName):
                stem(("A", ""), thing)
            if thing != "":
                for source in (("A", ""), "Xy"):
                    with self.assertRaises(Mismatch):
                        put_in(source, thing)


class Order(unittest.TestCase):
    def test_by_number_of_letters_then_as_strings(self):
        self.assertEqual(in_order(["b", "A", "Ab", "b"]), ("A", "b", "Ab"))
        self.assertEqual(in_order(["aa", "Z", "Aa", "AA", "z", "AAA", "a"]), ("Z", "a", "z", "AA", "Aa", "aa", "AAA"))
        self.assertEqual(in_order([]), ())
        self.assertEqual(in_order(["Ab"] * 5), ("Ab",))

    def test_all_short_names_from_any_order(self):
        right = tuple(sorted(NAMES, key=lambda name: (len(name), name)))
        for names in (NAMES, NAMES[::-1], NAMES[1::2] + NAMES + NAMES[::-3]):
            self.assertEqual(in_order(names), right)

    def test_large(self):
        names = ["A" * (number % 40 + 1) for number in range(99999)]
        self.assertEqual(in_order(names), tuple("A" * many for many in range(1, 41)))

    def test_any_object(self):
        for at, thing in enumerate(ODD):
            if not isinstance(thing, list):
                with self.assertRaises(Mismatch, msg=at):
                    in_order(thing)
            elif not all(plain_name(part) for part in thing):
                with self.assertRaises(NoName, msg=at):
                    in_order(thing)
            if not plain_name(thing):
                for names in ([thing], ["A", thing], [thing, "A"], ["b", "A", thing, "c"]):
                    with self.assertRaises(NoName, msg=at):
                        in_order(names)

    def test_what_is_passed_stays(self):
        names = ["b", "A", "Ab", "b"]
        in_order(names)
        self.assertEqual(names, ["b", "A", "Ab", "b"])
        for wrong in (["b", "A", None], ["b", ["A"]], [[], "b"]):
            before = copy.deepcopy(wrong)
            with self.assertRaises(NoName):
                in_order(wrong)
            self.assertEqual(wrong, before)

    def test_later_changes_have_no_effect(self):
        names = ["b", "A"]
        told = in_order(names)
        names.append("c")
        self.assertEqual((told, in_order(["b", "A"])), (("A", "b"), ("A", "b")))


if __name__ == "__main__":
    unittest.main()
