"""Runs and settled runs: point 12 and the section of stage 9."""

import itertools
import random
import unittest

from stemrules.books import kin
from stemrules.names import in_order
from stemrules.runs import files_after, run, settled
from stemrules.ways import made_by, way
from tests.second import plain_run, plain_settled
from tests.things import random_files
from tests.test_ways import chained_book

BOOK = (("link", ("", "exe"), (("", "o"), "LIBa")), ("cc", ("", "o"), (("", "c"),)))
FILES = ("Mc", "Nc", "LIBa")
DOWN = (("s", ("B", "a"), (("B", ""),)),)


def cases(seed, many):
    """Books, files and wishes, so that many of these are made."""
    chance = random.Random(seed)
    while many:
        book = chained_book(chance)
        names = sorted(set(kin(book, chance.choice(["ABab", "AA", "Aa"])) + kin(book, chance.choice(["BBAaba", "BAab"]))))
        if len(names) < 80:
            many -= 1
            wishes = [chance.choice(names + ["Z"]) for _ in range(chance.randrange(6))]
            yield chance, book, random_files(chance, names + ["Zz"], chance.choice([1, 2, 3, 12])), wishes


class Runs(unittest.TestCase):
    def right(self, book, files, wishes):
        """What a run tells, which is compared with the document's words."""
        made, missed, middle, behind = plain_run(book, files, wishes)
        self.assertEqual(run(book, files, wishes), (made, missed, middle), (book, files, wishes))
        self.assertEqual(files_after(book, files, wishes, False), behind)
        self.assertEqual(files_after(book, files, wishes, True), tuple(name for name in behind if name not in middle))
        return made, missed, middle

    def test_ordinary(self):
        self.assertEqual(self.right(BOOK, FILES, ["Mexe"]), (["Mo", "Mexe"], [], ("Mo",)))
        self.assertEqual(self.right(BOOK, FILES, ["Nexe", "Mexe"]), (["No", "Nexe", "Mo", "Mexe"], [], ("Mo", "No")))
        self.assertEqual(run(BOOK, FILES, []), ([], [], ()))
        self.assertEqual(files_after(BOOK, FILES, [], True), FILES)
        self.assertEqual(run((), (), ["A"]), ([], ["A"], ()))

    def test_kinds_of_what_is_told(self):
        told = run(BOOK, FILES, ["Mexe", "Zexe"])
        self.assertEqual([type(told)] + [type(part) for part in told], [tuple, list, list, tuple])
        self.assertIs(type(files_after(BOOK, FILES, ["Mexe"], True)), tuple)
        told = settled(BOOK, FILES, ["Mexe", "Mo"])
        self.assertEqual([type(told)] + [type(part) for part in told], [tuple, list, tuple, tuple])
        self.assertEqual([type(one) for one in told[0]], [tuple] * 2)

    def test_wish_that_stands_there_is_passed(self):
        self.assertEqual(self.right(BOOK, FILES, ["Mc", "LIBa"]), ([], [], ()))
        # What it would be made of is not made then.
        self.assertEqual(self.right(BOOK, in_order(["Mc", "Mexe", "LIBa"]), ["Mexe"]), ([], [], ()))

    def test_wish_twice(self):
        self.assertEqual(self.right(BOOK, FILES, ["Mexe", "Mexe"]), (["Mo", "Mexe"], [], ("Mo",)))
        self.assertEqual(self.right(BOOK, FILES, ["Mo", "Mexe", "Mo"]), (["Mo", "Mexe"], [], ()))

    def test_missed_as_often_as_it_is_missed(self):
        self.assertEqual(self.right(BOOK, FILES, ["Zexe", "Mo", "Zexe", "Qo"]), (["Mo"], ["Zexe", "Zexe", "Qo"], ()))
        # Missed once, then its source is made.
        book = (("s", ("B", "a"), (("B", ""),)),)
        self.assertEqual(self.right(book, ("B",), ["Baa", "Ba", "Baa", "Baa"]), (["Ba", "Baa"], ["Baa"], ()))

    def test_wishes_that_others_need(self):
        self.assertEqual(self.right(BOOK, FILES, ["Mexe", "Mo"]), (["Mo", "Mexe"], [], ()))
        self.assertEqual(self.right(BOOK, FILES, ["Mo", "Mexe"]), (["Mo", "Mexe"], [], ()))
        # A middle name helps later ones, too: Baa has a way only with Ba there.
        book = DOWN + (("t", ("C", ""), (("B", ""),)),)
        self.assertEqual(self.right(book, ("B",), ["Caa", "Baaa"]), ([], ["Caa", "Baaa"], ()))
        self.assertEqual(self.right(book, ("B",), ["Ca", "Baa"]), (["Ba", "Ca", "Baa"], [], ("Ba",)))

    def test_middle_names_are_no_wishes(self):
        # Not even ones that were missed, or that stand behind.
        book = (("x", ("", "e"), (("", "o"), ("", "p"))), ("y", ("", "o"), ("Z",)), ("y", ("", "p"), ("Z",)))
        self.assertEqual(self.right(book, ("Z",), ["Me"]), (["Mo", "Mp", "Me"], [], ("Mo", "Mp")))
        self.assertEqual(self.right(book, ("Z",), ["Me", "Mp"]), (["Mo", "Mp", "Me"], [], ("Mo",)))
        book = (("x", ("", "e"), (("", "o"), ("", "p"))), ("y", ("", "o"), (("", "c"),)), ("z", ("", "p"), (("", "c"),)),
                ("w", ("Q", ""), (("", "ce"),)), ("v", ("", "c"), ("Z",)), ("u", ("Q", ""), ()))
        self.right(book, ("Z",), ["Mp", "Qc", "Mce", "Me"])

    def test_own_sources_first_each_name_once(self):
        book = (("x", ("", "e"), (("", "b"), ("", "d"), ("", "b"))), ("y", ("", "b"), (("", "c"),)), ("z", ("", "d"), (("", "b"), ("", "c"))),
                ("w", ("", "c"), ()))
        self.assertEqual(self.right(book, (), ["Me"])[0], ["Mc", "Mb", "Md", "Me"])
        turned = (("x", ("", "e"), (("", "d"), ("", "b"))),) + book[1:]
        self.assertEqual(self.right(turned, (), ["Me"])[0], ["Mc", "Mb", "Md", "Me"])

    def test_what_stands_there_by_now_is_not_made_nor_its_sources(self):
        book = (("x", ("", "e"), (("", "a"), ("", "b"))), ("y", ("", "a"), (("", "b"), ("", "c"))), ("z", ("", "b"), (("", "q"),)),
                ("w", ("", "c"), ()), ("v", ("", "q"), ()))
        self.assertEqual(self.right(book, (), ["Me"])[0], ["Mq", "Mb", "Mc", "Ma", "Me"])
        # Cq stands twice in the way: within that of Bq, where y is spent, by z of Eq, and by y of Cr, which is not made then.
        book = (("x", ("A", ""), (("B", ""), ("C", ""))), ("y", ("", "q"), (("", "r"),)), ("t", ("B", "r"), (("C", "q"),)),
                ("z", ("C", "q"), (("E", "q"),)), ("w", ("C", "r"), ()), ("u", ("E", ""), ()))
        self.assertEqual(way(book, (), "Aq")[3], ("Cq", "y", ("Cr", "w")))
        self.assertEqual(self.right(book, (), ["Aq"]), (["Eq", "Cq", "Br", "Bq", "Aq"], [], ("Bq", "Br", "Cq", "Eq")))

    def test_name_within_its_own_way(self):
        # A is made of B and D by x, B of A by y; within, A is made by z, and x's D is made nevertheless.
        book = (("x", ("A", ""), (("B", ""), ("D", ""))), ("y", ("B", ""), (("A", ""),)), ("z", ("A", ""), (("C", ""),)),
                ("w", ("D", ""), ()), ("v", ("C", ""), ()))
        told = way(book, (), "Aq")
        self.assertEqual(told, ("Aq", "x", ("Bq", "y", ("Aq", "z", ("Cq", "v"))), ("Dq", "w")))
        self.assertEqual(self.right(book, (), ["Aq"]), (["Cq", "Aq", "Bq", "Dq"], [], ("Bq", "Cq", "Dq")))
        self.assertEqual(files_after(book, (), ["Aq"], True), ("Aq",))

    def test_middle_names_swept_and_kept(self):
        self.assertEqual(files_after(BOOK, ("Mc", "LIBa"), ["Mexe"], True), ("Mc", "LIBa", "Mexe"))
        self.assertEqual(files_after(BOOK, ("Mc", "LIBa"), ["Mexe"], False), ("Mc", "Mo", "LIBa", "Mexe"))
        self.assertEqual(files_after(BOOK, ("Mc", "LIBa"), ["Mexe", "Mo"], True), ("Mc", "Mo", "LIBa", "Mexe"))
        # What stood there is never swept, though others are made of it.
        self.assertEqual(files_after(BOOK, ("Mc", "Mo", "LIBa"), ["Mexe"], True), ("Mc", "Mo", "LIBa", "Mexe"))

    def test_one_wish_makes_what_made_by_tells(self):
        for chance, book, files, wishes in cases(91, 300):
            for wish in wishes:
                self.assertEqual(run(book, files, [wish])[0], made_by(book, files, wish))

    def test_against_the_words(self):
        seen = {}
        for chance, book, files, wishes in cases(92, 1500):
            made, missed, middle = self.right(book, files, wishes)
            for at, right in enumerate((made != [], missed != [], middle != (), len(missed) != len(set(missed)))):
                seen[at] = seen.get(at, 0) + right
        self.assertTrue(min(seen.values()) > 50, seen)

    def test_more_than_sixty_files(self):
        sixty = tuple("A" * many for many in range(1, 61))
        book = (("x", ("", "a"), (("", "b"), ("", "c"))), ("y", ("", "b"), ()), ("z", ("", "c"), ()))
        wishes = ["B" * many + "a" for many in range(1, 40)]
        made, missed, middle = self.right(book, sixty, wishes)
        self.assertEqual([len(made), missed, len(middle)], [117, [], 78])
        behind = files_after(book, sixty, wishes, False)
        self.assertEqual((len(behind), behind), (177, in_order(list(behind))))
        self.assertEqual(len(files_after(book, sixty, wishes, True)), 99)
        self.assertEqual(len(settled(book, sixty, wishes)[2]), 99)

    def test_many_wishes(self):
        wishes = ["A" * (many % 40) + "B" * (many // 40 + 1) for many in range(1000)]
        book = (("x", ("A", ""), ()),)
        made, missed, middle = run(book, (), wishes * 2)
        self.assertEqual((len(made), len(missed), middle), (975, 50, ()))
        self.assertEqual(len(settled(book, (), wishes)[0]), 975)


class Settled(unittest.TestCase):
    def right(self, book, files, wishes):
        told = settled(book, files, wishes)
        self.assertEqual(told, plain_settled(book, files, wishes), (book, files, wishes))
        return told

    def test_ordinary(self):
        self.assertEqual(self.right(DOWN, ("B",), ["Baa", "Ba", "A"])[1:], (("A",), ("B", "Ba", "Baa")))
        self.assertEqual(self.right(BOOK, FILES, []), ([], (), FILES))
        self.assertEqual(self.right(BOOK, FILES, ["Mc"]), ([], (), FILES))

    def test_no_middle_names(self):
        made, missed, files = self.right(BOOK, ("Mc", "LIBa"), ["Mexe"])
        self.assertEqual(made, [("Mexe", ("Mexe", "link", ("Mo", "cc", ("Mc",)), ("LIBa",)))])
        self.assertEqual((missed, files), ((), ("Mc", "LIBa", "Mexe")))

    def test_way_as_it_is_told_then(self):
        made = self.right(BOOK, ("Mc", "LIBa"), ["Mo", "Mexe"])[0]
        self.assertEqual(made[1], ("Mexe", ("Mexe", "link", ("Mo",), ("LIBa",))))

    def test_wishes_twice(self):
        made, missed, files = self.right(DOWN, ("B",), ["Ba", "Z", "Ba", "Z"])
        self.assertEqual((made, missed, files), ([("Ba", ("Ba", "s", ("B",)))], ("Z",), ("B", "Ba")))

    def test_round_after_round(self):
        wishes = ["B" + "a" * many for many in range(12, 0, -1)]
        made, missed, files = self.right(DOWN, ("B",), wishes)
        self.assertEqual([wish for wish, _ in made], wishes[::-1])
        self.assertEqual((missed, len(files)), ((), 13))
        # A round goes on behind what it made, with the next wish.
        made = self.right(DOWN, ("B",), ["Baaa", "Ba", "Baa", "Baaaa"])[0]
        self.assertEqual([wish for wish, _ in made], ["Ba", "Baa", "Baaa", "Baaaa"])

    def test_missed_in_order_each_once(self):
        self.assertEqual(self.right((), (), ["b", "a", "Z", "AA", "a"])[1], ("Z", "a", "b", "AA"))

    def test_end_hangs_not_on_the_order(self):
        for chance, book, files, wishes in cases(93, 120):
            ends = {settled(book, files, list(other))[1:] for other in itertools.islice(itertools.permutations(wishes), 30)}
            self.assertEqual(len(ends), 1, (book, files, wishes))

    def test_second_one_makes_nothing(self):
        made = 0
        for chance, book, files, wishes in cases(94, 1000):
            told = settled(book, files, wishes)
            made += len(told[0])
            if len(told[2]) <= 60:
                self.assertEqual(settled(book, told[2], wishes), ([], told[1], told[2]))
        self.assertGreater(made, 300)

    def test_against_the_words(self):
        for chance, book, files, wishes in cases(95, 1500):
            self.right(book, files, wishes)


class Passed(unittest.TestCase):
    def test_what_is_passed_stays_and_lists_are_new(self):
        wishes = ["Mexe", "Zexe"]
        first = run(BOOK, FILES, wishes), settled(BOOK, FILES, wishes)
        files_after(BOOK, FILES, wishes, True)
        self.assertEqual(wishes, ["Mexe", "Zexe"])
        again = run(BOOK, FILES, wishes), settled(BOOK, FILES, wishes)
        self.assertEqual(first, again)
        for one, other in ((first[0][0], again[0][0]), (first[0][1], again[0][1]), (first[1][0], again[1][0])):
            self.assertIsNot(one, other)
            one.clear()
            self.assertNotEqual(other, [])


if __name__ == "__main__":
    unittest.main()
