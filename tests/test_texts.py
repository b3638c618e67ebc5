"""Texts of rules and books: point 13 and the section of stage 11."""

import itertools
import random
import unittest

from stemrules.books import is_book, is_rule
from stemrules.errors import RuleError, SyntaxProblem, TooMany
from stemrules.texts import format_book, format_rule, parse_book, parse_rule
from tests.second import plain_book_problem, plain_problem, plain_read
from tests.things import random_book

RIGHT = ("cc : *o < *c", "link : *exe < *o LIBa", "x : A* <", "abcdefgh : ABC*def < GHI*jkl ABcdef *z", "y : *a < A B C", "z : A* < ABCDEF")
SIGNS = [chr(code) for code in range(32, 127)] + ["\t", "\n"]


def random_rule(chance):
    label = "".join(chance.choice("abz") for _ in range(chance.randrange(1, 9)))
    (_, pattern, sources), = random_book(chance, 1)
    return label, pattern, sources


def random_text(chance):
    """The text of a rule with any blanks where they may stand."""
    def some(least):
        return "".join(chance.choice(" \t") for _ in range(chance.choice([least, least, 1, 2, 3])))

    label, pattern, sources = random_rule(chance)
    texts = [source if isinstance(source, str) else "*".join(source) for source in sources]
    text = some(0) + label + some(0) + ":" + some(0) + "*".join(pattern) + some(0) + "<" + some(0)
    for at, source in enumerate(texts):
        text += (some(1) if at else "") + source
    return text + some(0), (label, pattern, sources)


def bent(chance, text):
    """A text with one sign or token changed, put in, left out, or cut off."""
    at = chance.randrange(len(text) + 1)
    kind = chance.randrange(6)
    piece = chance.choice(SIGNS + [":", "*", "<", " ", "a", "A", "aB", "Ab", "abcdefghi", "ABCD", "abcd", "A*", "*a", " A ", " Ab", " *"] * 4)
    if kind == 0:
        return text[:at] + piece + text[at + 1:]
    if kind == 1:
        return text[:at] + text[at + 1:]
    if kind == 2:
        return text[:at]
    if kind == 3:
        return text[at:]
    if kind == 4:
        return text[:at] + text[max(0, at - 2):]
    return text[:at] + piece + text[at:]


class ParseRule(unittest.TestCase):
    def place(self, text):
        """The place that is told of what is wrong in the text of a rule."""
        with self.assertRaises(RuleError) as caught:
            parse_rule(text)
        self.assertIs(type(caught.exception), SyntaxProblem, text)
        return caught.exception.line, caught.exception.column

    def right(self, text):
        """Whether the text of a rule is right; what is told of it is compared with the document's words."""
        column = plain_problem(text)
        if column is None:
            self.assertEqual(parse_rule(text), plain_read(text), repr(text))
            self.assertTrue(is_rule(parse_rule(text)))
        else:
            self.assertEqual(self.place(text), (1, column), repr(text))
        return column is None

    def test_ordinary(self):
        self.assertEqual(parse_rule("cc : *o < *c"), ("cc", ("", "o"), (("", "c"),)))
        self.assertEqual(parse_rule("link : *exe < *o LIBa"), ("link", ("", "exe"), (("", "o"), "LIBa")))
        self.assertEqual(parse_rule("x : AB*cd <"), ("x", ("AB", "cd"), ()))
        self.assertEqual(parse_rule("x : A* < B* *b B*b"), ("x", ("A", ""), (("B", ""), ("", "b"), ("B", "b"))))
        for text in RIGHT:
            self.assertTrue(self.right(text))

    def test_blanks(self):
        right = ("cc", ("A", "o"), (("", "c"), "LIBa"))
        for text in ("cc:A*o<*c LIBa", "cc :A*o< *c  LIBa", "  cc\t:\tA*o\t<\t*c\tLIBa\t", "\t \tcc:  A*o  <*c \t LIBa   ", "cc: A*o <*c LIBa"):
            self.assertEqual(parse_rule(text), right)
            self.assertTrue(self.right(text))

    def test_no_blanks_within_a_pattern(self):
        for text, column in (("x : A *o <", 7), ("x : A* o <", 8), ("x : * o <", 7), ("x : A * o <", 7), ("x : A\t*\to <", 7),
                             ("x : *a < * b", 12), ("x : *a < A* *", 14), ("x : *a < A*\t*\tb", 15)):
            self.assertEqual(self.place(text), (1, column), text)
            self.assertFalse(self.right(text))
        # Among the sources these are two each.
        for text, sources in (("x : *a < A *b", ("A", ("", "b"))), ("x : *a < A* b", (("A", ""), "b")), ("x : *a < A* B", (("A", ""), "B")),
                              ("x : *a < ABCD *b", ("ABCD", ("", "b")))):
            self.assertEqual(parse_rule(text), ("x", ("", "a"), sources))
            self.assertTrue(self.right(text))

    def test_one_blank_at_least_between_sources(self):
        for text, column in (("x : *a < A*b*c", 13), ("x : *a < *b*c", 12), ("x : *a < A**b", 12), ("x : *a < Ab*c", 12), ("x : *a < ab*", 12),
                             ("x : *a < A*b*", 13), ("x : *a <A*bC", 11), ("x : *a < A*B", 12)):
            self.assertEqual(self.place(text), (1, column), text)
            self.assertFalse(self.right(text))

    def test_nothing_at_both_sides_of_the_star(self):
        for text, column in (("x : * <", 7), ("x : *<", 6), ("x : *", 6), ("x : *  ", 8), ("x : *a < *", 11), ("x : *a < * ", 12), ("x : *a < * *a", 12)):
            self.assertEqual(self.place(text), (1, column), text)
            self.assertFalse(self.right(text))

    def test_ends_too_early(self):
        whole = "cc : A*o < A*c"
        for end, column in ((0, 1), (1, 2), (2, 3), (3, 4), (4, 5), (5, 6), (6, 7), (7, 8), (8, 9), (9, 10)):
            self.assertEqual(self.place(whole[:end]), (1, column))
        for end in range(10, 15):
            self.assertIs(type(parse_rule(whole[:end])), tuple)
        # Behind its last character, which may be a blank.
        self.assertEqual(self.place("cc   "), (1, 6))
        self.assertEqual(self.place("cc : A*o\t\t"), (1, 11))

    def test_text_without_any_token(self):
        for text, column in (("", 1), (" ", 2), ("\t", 2), (" \t \t ", 6)):
            self.assertEqual(self.place(text), (1, column))

    def test_newline_is_no_token(self):
        for text, column in (("\n", 1), ("cc : *o < *c\n", 13), ("cc\n: *o < *c", 3), ("\ncc : *o < *c", 1), ("cc : *o <\n$", 10), ("c*\n", 3)):
            self.assertEqual(self.place(text), (1, column), text)

    def test_all_tokens_are_read_first(self):
        for text, column in (("$", 1), ("cc : *o < $", 11), ("< < $", 5), ("CC : *o < *c1", 13), ("cc-x", 3), ("aB .", 4), (" ; :", 2), ("cc : *o < *c #$", 14)):
            self.assertEqual(self.place(text), (1, column), text)

    def test_each_sign_that_is_no_token(self):
        for sign in SIGNS:
            if not sign.isalpha() and sign not in ":*< \t":
                self.assertEqual(self.place("cc : *o < *c" + sign), (1, 13))
                self.assertEqual(self.place(sign + "cc : *o < *c"), (1, 1))
                self.assertEqual(self.place("cc : * < *" + sign + "c"), (1, 11))

    def test_labels(self):
        self.assertEqual(parse_rule("abcdefgh:A*<")[0], "abcdefgh")
        for text, column in (("abcdefghi:A*<", 1), ("A:A*<", 1), ("aB:A*<", 1), ("Ab:A*<", 1), (":A*<", 1), (" *:A*<", 2), ("a b:A*<", 3),
                             ("a*:A*<", 2), ("a:b:A*<", 3), ("a::A*<", 3), ("a<", 2)):
            self.assertEqual(self.place(text), (1, column), text)
            self.assertFalse(self.right(text))

    def test_targets(self):
        for text, column in (("x:ABCD*<", 3), ("x:A*abcd<", 5), ("x:a*b<", 3), ("x:Ab*<", 3), ("x:A*B<", 5), ("x:A*aB<", 5), ("x:AB<", 5), ("x:Ab<", 3),
                             ("x:<", 3), ("x:A<", 4), ("x:A*b:", 6), ("x:A*b c<", 7), ("x:A*b *c<", 7), ("x:A**b<", 5), ("x:A*b*<", 6), ("x A*", 3)):
            self.assertEqual(self.place(text), (1, column), text)
            self.assertFalse(self.right(text))

    def test_sources(self):
        self.assertEqual(parse_rule("x:A*<ABCDEF abcdef ABCdef")[2], ("ABCDEF", "abcdef", "ABCdef"))
        self.assertEqual(parse_rule("x:A*<ABC*abc")[2], (("ABC", "abc"),))
        for text, column in (("x:A*<ABCDEFG", 6), ("x:A*<abcdefg", 6), ("x:A*<ABCDefg", 6), ("x:A*<aB", 6), ("x:A*<AbC", 6), ("x:A*<A*abcd", 8),
                             ("x:A*<A*B", 8), ("x:A*<A*aB", 8), ("x:A*<ABCD*", 10), ("x:A*<ABCDEFG*", 6), ("x:A*<ABCDEF*a", 12), ("x:A*<:", 6),
                             ("x:A*<<", 6), ("x:A*<A<", 7), ("x:A*<A :", 8), ("x:A*<A*<", 8), ("x:A*<A*b :", 10)):
            self.assertEqual(self.place(text), (1, column), text)
            self.assertFalse(self.right(text))

    def test_fourth_source(self):
        for text, column in (("x:A*<A B C D", 12), ("x:A*<A B C *d", 12), ("x:A*<A B C D*", 12), ("x:A*<*a *b *c d", 15), ("x:A*<A B C* d", 13),
                             ("x:A*<A B C *", 12), ("x:A*<A B C aB", 12), ("x:A*<A B C :", 12)):
            self.assertEqual(self.place(text), (1, column), text)
            self.assertFalse(self.right(text))
        self.assertEqual(len(parse_rule("x:A*<A B C*")[2]), 3)

    def test_short_texts(self):
        seen = {True: 0, False: 0}
        for many in range(6):
            for signs in itertools.product("aA:*< ", repeat=many):
                seen[self.right("a:*a<"[:many % 2] + "".join(signs))] += 1
        for many in range(7):
            for signs in itertools.product("aA* ", repeat=many):
                seen[self.right("x:A*<" + "".join(signs))] += 1
        for many in range(6):
            for signs in itertools.product("aA*< ", repeat=many):
                seen[self.right("x:" + "".join(signs))] += 1
        self.assertTrue(min(seen.values()) > 500, seen)

    def test_any_blanks(self):
        chance = random.Random(111)
        for _ in range(2000):
            text, rule = random_text(chance)
            self.assertEqual(parse_rule(text), rule)
            self.assertTrue(self.right(text))

    def test_one_thing_changed(self):
        chance = random.Random(112)
        seen = {True: 0, False: 0}
        for _ in range(15000):
            text = chance.choice(RIGHT) if chance.random() < 0.5 else random_text(chance)[0]
            for _ in range(chance.choice([1, 1, 2])):
                text = bent(chance, text)
            seen[self.right(text)] += 1
        self.assertTrue(min(seen.values()) > 2000, seen)

    def test_every_cut_and_every_sign(self):
        for text in RIGHT:
            for at in range(len(text) + 1):
                self.right(text[:at])
                self.right(text[at:])
                self.right(text[:at] + text[at + 1:])
                for sign in " \t:*<aAzZ1%":
                    self.right(text[:at] + sign + text[at:])
                    self.right(text[:at] + sign + text[at + 1:])

    def test_long_texts(self):
        self.assertEqual(self.place("a" * 5000), (1, 1))
        self.assertEqual(self.place(" " * 5000), (1, 5001))
        self.assertEqual(self.place("*" * 5000), (1, 1))
        self.assertEqual(self.place("x:A*<" + " A" * 2000), (1, 13))
        self.assertEqual(self.place("a : " * 1200), (1, 5))


class ParseBook(unittest.TestCase):
    def right(self, text):
        """Whether the text of a book is right but for the number of rules; what is told is compared."""
        place = plain_book_problem(text)
        rules = [] if place else [plain_read(row) for row in text.split("\n") if row.strip(" \t")]
        if place is None and len(rules) <= 6:
            self.assertEqual(parse_book(text), tuple(rules), repr(text))
            self.assertTrue(is_book(parse_book(text)))
            return True
        with self.assertRaises(RuleError) as caught:
            parse_book(text)
        if place is None:
            self.assertEqual((type(caught.exception), caught.exception.limit), (TooMany, 6))
        else:
            self.assertIs(type(caught.exception), SyntaxProblem)
            self.assertEqual((caught.exception.line, caught.exception.column), place, repr(text))
        return place is None

    def place(self, text):
        self.assertFalse(self.right(text))
        return plain_book_problem(text)

    def test_ordinary(self):
        cc, other = ("cc", ("", "o"), (("", "c"),)), ("as", ("", "o"), (("", "s"),))
        for text in ("cc : *o < *c\nas : *o < *s\n", "cc : *o < *c\nas : *o < *s", "\n\ncc:*o<*c\n \t \nas:*o<*s\n\n  ", "\ncc : *o < *c\t\n\n\tas : *o < *s"):
            self.assertEqual(parse_book(text), (cc, other))
            self.assertTrue(self.right(text))

    def test_texts_without_any_token(self):
        for text in ("", "\n", " ", "\t", "\n\n\n", " \n\t\n  ", "\n" * 5000):
            self.assertEqual(parse_book(text), ())

    def test_lines_and_columns(self):
        for text, place in (("cc : *o < *c\nas : *o", (2, 8)), ("\n\n x", (3, 3)), ("x\n", (1, 2)), ("x \n", (1, 3)), ("x:A*<\n\nX:A*<\n", (3, 1)),
                            ("x:A*<\n$\n", (2, 1)), ("x:A*\n$", (1, 5)), ("x:A*<\nx:A* $", (2, 6)), ("x:A*<\n:\n:", (2, 1)), ("x:A*<\n\t\tx:A* b<", (2, 8)),
                            ("x:\nA*<", (1, 3)), ("x:A*<A\n*b", (2, 1)), ("x:A*<\n<", (2, 1))):
            self.assertEqual(self.place(text), place, text)

    def test_rows_one_after_the_other(self):
        # What is no token in a later row is not told ahead of what is wrong in an earlier one.
        self.assertEqual(self.place("x:A*<\nx:A*\n$"), (2, 5))
        self.assertEqual(self.place("x:A*< B $\nx"), (1, 9))

    def test_six_rules_and_a_seventh(self):
        row = "x : A* <\n"
        self.assertEqual(len(parse_book(row * 6)), 6)
        self.assertEqual(len(parse_book("\n" + row * 6 + "\n\n")), 6)
        for text in (row * 7, row * 500, row * 3 + "\n" + row * 4, (row * 7)[:-1]):
            with self.assertRaises(TooMany) as caught:
                parse_book(text)
            self.assertEqual(caught.exception.limit, 6)

    def test_too_many_only_behind_all_rows_being_right(self):
        row = "x : A* <\n"
        for many in (6, 7, 20):
            self.assertEqual(self.place(row * many + "x : A*"), (many + 1, 7))
            self.assertEqual(self.place(row * many + "$"), (many + 1, 1))
            self.assertEqual(self.place("x\n" + row * many), (1, 2))

    def test_one_thing_changed(self):
        chance = random.Random(113)
        seen = {True: 0, False: 0}
        for _ in range(4000):
            text = "".join(random_text(chance)[0] + chance.choice(["\n", "\n", "\n\n", "\n \n"]) for _ in range(chance.choice([0, 1, 2, 3, 6, 7])))
            for _ in range(chance.choice([0, 1, 1, 2])):
                text = bent(chance, text)
            seen[self.right(text)] += 1
        self.assertTrue(min(seen.values()) > 500, seen)


class Format(unittest.TestCase):
    def test_ordinary(self):
        self.assertEqual(format_rule(("cc", ("", "o"), (("", "c"),))), "cc : *o < *c")
        self.assertEqual(format_rule(("cc", ("A", "b"), ())), "cc : A*b <")
        self.assertEqual(format_rule(("x", ("A", ""), ("LIBa", ("B", ""), ("", "c")))), "x : A* < LIBa B* *c")
        self.assertEqual(format_book(()), "")
        self.assertEqual(format_book((("cc", ("", "o"), (("", "c"),)), ("x", ("A", ""), ()))), "cc : *o < *c\nx : A* <\n")

    def test_canonical_texts_parsed_back(self):
        chance = random.Random(114)
        for _ in range(500):
            book = tuple(random_rule(chance) for _ in range(chance.randrange(7)))
            self.assertEqual(parse_book(format_book(book)), book)
            self.assertEqual(format_book(book), "".join(format_rule(rule) + "\n" for rule in book))
            for rule in book:
                self.assertEqual(parse_rule(format_rule(rule)), rule)

    def test_other_texts_become_canonical(self):
        chance = random.Random(115)
        for _ in range(500):
            text, rule = random_text(chance)
            self.assertEqual(format_rule(parse_rule(text)), format_rule(rule))
        for text in RIGHT:
            self.assertEqual(format_rule(parse_rule(text)), text)
            self.assertEqual(format_book(parse_book(text)), text + "\n")


if __name__ == "__main__":
    unittest.main()
