"""The desk: its deeds, undo and redo, news and equality: the section of stage 10."""

import copy
import random
import unittest

from stemrules.desk import Desk
from stemrules.errors import Mismatch, NoMark, NoName, NoRule, RuleError, TooMany
from stemrules.ways import can, way
from tests.second import ordered
from tests.things import ODD, changed, plain_name, plain_rule

CC, AS = ("cc", ("", "o"), (("", "c"),)), ("as", ("", "o"), (("", "s"),))
LINK = ("link", ("", "exe"), (("", "o"), "LIBa"))
SIXTY = ["A" * many for many in range(1, 61)]


def desk_of(book=(), files=()):
    desk = Desk()
    desk.all_done([("add", at, rule) for at, rule in enumerate(book)] + [("put", name) for name in files])
    return desk


def state(desk):
    """All that can be seen of a desk, with what undo and redo would show."""
    twin = copy.deepcopy(desk)
    rows = [(twin.book, twin.files, twin.notes())]
    for call in (twin.redo, twin.undo):
        try:
            while True:
                call()
                rows.append((twin.book, twin.files, twin.notes()))
        except NoMark:
            pass
    return rows


class Deeds(unittest.TestCase):
    def test_empty_at_first(self):
        desk = Desk()
        self.assertEqual((desk.book, desk.files, len(desk), desk.notes(), desk.news(["A"])), ((), (), 0, [], []))
        self.assertIs("A" in desk, False)

    def test_add(self):
        desk = Desk()
        for number, rule, right in ((0, CC, (CC,)), (0, AS, (AS, CC)), (2, LINK, (AS, CC, LINK)), (1, LINK, (AS, LINK, CC, LINK))):
            self.assertIsNone(desk.do(("add", number, rule)))
            self.assertEqual((desk.book, len(desk)), (right, len(right)))

    def test_cut(self):
        desk = desk_of((CC, AS, LINK))
        for number, right in ((1, (CC, LINK)), (1, (CC,)), (0, ())):
            self.assertIsNone(desk.do(("cut", number)))
            self.assertEqual((desk.book, len(desk)), (right, len(right)))

    def test_put_and_drop(self):
        desk = Desk()
        for word, name, right in (("put", "Mc", ("Mc",)), ("put", "Zzz", ("Mc", "Zzz")), ("put", "b", ("b", "Mc", "Zzz")),
                                  ("drop", "Mc", ("b", "Zzz")), ("put", "Ma", ("b", "Ma", "Zzz")), ("drop", "Zzz", ("b", "Ma"))):
            self.assertIsNone(desk.do((word, name)))
            self.assertEqual(desk.files, right)
            self.assertEqual([one in desk for one in ("Mc", "b", "Ma", "Zzz")], [one in right for one in ("Mc", "b", "Ma", "Zzz")])

    def test_any_object_in_desk(self):
        desk = desk_of((CC,), ("A", "Ab"))
        for thing in ODD:
            self.assertIs(thing in desk, thing in ("A", "Ab") if isinstance(thing, str) else False)

    def test_ways_as_they_are_now(self):
        desk = desk_of((CC,))
        self.assertEqual((desk.way("Mo"), desk.can("Mo")), (None, False))
        desk.do(("put", "Mc"))
        self.assertEqual((desk.way("Mo"), desk.can("Mo")), (("Mo", "cc", ("Mc",)), True))
        desk.do(("put", "Mo"))
        self.assertEqual((desk.way("Mo"), desk.can("Mo")), (("Mo",), True))
        desk.undo()
        desk.do(("cut", 0))
        self.assertEqual((desk.way("Mo"), desk.can("Mo")), (None, False))
        for call in (desk.way, desk.can):
            for wrong in ("", "aB", None, ["Mo"], 0):
                self.assertRaises(NoName, call, wrong)


class Refused(unittest.TestCase):
    def refused(self, kind, desk, deed, limit=None):
        """A deed is refused with this error, by do and in a list, and nothing changes."""
        before = state(desk)
        ahead = [("drop", desk.files[0]), ("put", desk.files[0])] if desk.files else [("put", "Qq"), ("drop", "Qq")]
        for call, thing in ((desk.do, deed), (desk.all_done, [deed]), (desk.all_done, ahead + [deed, ("undo",)])):
            with self.assertRaises(RuleError) as caught:
                call(thing)
            self.assertIs(type(caught.exception), kind, deed)
            if limit is not None:
                self.assertEqual(caught.exception.limit, limit)
        self.assertEqual(state(desk), before, deed)

    def desk(self):
        """A desk with a deed that can be done again."""
        desk = desk_of((CC, AS), ("Mc", "LIBa", "Q"))
        desk.undo()
        return desk

    def test_form_of_a_deed(self):
        for deed in ((), ("add",), ("add", 0), ("add", 0, CC, CC), ("add", CC), ("cut",), ("cut", 0, 0), ("put",), ("put", "A", "B"),
                     ("drop",), ("drop", "Mc", 0), ("undo",), ("redo",), ("Add", 0, CC), ("", "A"), (None, "A"), (0, "A"), "put", None,
                     ["put", "A"], ["cut", 0], [("put", "A")], (("put", "A"),), (["put"], "A"), ({}, "A"), (("put",), "A"), {"put": "A"},
                     ("put ", "A"), ("putA",)):
            self.refused(Mismatch, self.desk(), deed)

    def test_things_that_are_no_rule(self):
        for rule in (None, "cc", list(CC), CC[:2], (CC,), ("CC", *CC[1:]), ("cc", ("", ""), ()), ("cc", ("", "o"), [("", "c")]),
                     ("cc", ("", "o"), ("ABCDEFG",)), ("cc", ("", "o"), ("A",) * 4)):
            # This is told ahead of numbers that do not go.
            for number in (0, 2, 3, -1, None, True, "0"):
                self.refused(Mismatch, self.desk(), ("add", number, rule))

    def test_numbers(self):
        for number in (3, -1, 10 ** 12, -10 ** 12, True, False, None, "0", (0,), [0], {}):
            self.refused(NoRule, self.desk(), ("add", number, LINK))
        for number in (2, 3, -1, 10 ** 12, True, False, None, "0", (0,), [0], {}):
            self.refused(NoRule, self.desk(), ("cut", number))
        self.refused(NoRule, Desk(), ("cut", 0))

    def test_names(self):
        for name in ("", "aB", "A b", None, 0, True, ("A",), ["A"], {}):
            self.refused(NoName, self.desk(), ("put", name))
            self.refused(NoName, self.desk(), ("drop", name))
        self.refused(NoName, self.desk(), ("put", "Mc"))
        self.refused(NoName, self.desk(), ("drop", "Q"))
        self.refused(NoName, Desk(), ("drop", "A"))

    def test_seventh_rule(self):
        desk = desk_of((CC,) * 5)
        desk.do(("add", 3, AS))
        self.assertEqual(desk.book, (CC,) * 3 + (AS,) + (CC,) * 2)
        desk.do(("put", "A"))
        desk.undo()
        for number in range(7):
            self.refused(TooMany, desk, ("add", number, LINK), 6)
        # The number is told ahead of it, and what is no rule ahead of that.
        self.refused(NoRule, desk, ("add", 7, LINK))
        self.refused(NoRule, desk, ("add", True, LINK))
        self.refused(Mismatch, desk, ("add", 7, None))
        desk.all_done([("cut", 0), ("add", 5, LINK)])
        self.assertEqual(len(desk), 6)

    def test_sixty_first_file(self):
        desk = desk_of((), SIXTY[:59])
        desk.do(("put", SIXTY[59]))
        self.assertEqual(desk.files, tuple(SIXTY))
        desk.undo()
        desk.redo()
        desk.do(("drop", "A"))
        desk.undo()
        self.refused(TooMany, desk, ("put", "b"), 60)
        self.refused(TooMany, desk, ("put", "A" * 61), 60)
        # That it stands there is told ahead of it.
        self.refused(NoName, desk, ("put", "A"))
        desk.all_done([("drop", "A"), ("put", "b")])
        self.assertEqual(len(desk.files), 60)

    def test_objects_of_any_form(self):
        for odd in ODD:
            desk = self.desk()
            self.refused(Mismatch, desk, odd)
            if not isinstance(odd, list):
                self.assertRaises(Mismatch, desk.all_done, odd)
            if not plain_rule(odd):
                self.refused(Mismatch, desk, ("add", 0, odd))
            if not (type(odd) is int and 0 <= odd <= 2):
                self.refused(NoRule, desk, ("add", odd, LINK))
            if not plain_name(odd):
                self.refused(NoName, desk, ("put", odd))
                self.assertRaises(NoName, desk.way, odd)
                self.assertRaises(NoName, desk.can, odd)
                self.assertRaises(NoName, desk.news, ["A", odd])
            if not isinstance(odd, list):
                self.assertRaises(Mismatch, desk.news, odd)

    def test_deeds_bent_at_one_place(self):
        for right in (("add", 1, LINK), ("cut", 1), ("put", "Nc"), ("drop", "Mc")):
            for deed in changed(right):
                desk = self.desk()
                before = state(desk)
                try:
                    desk.do(deed)
                except (Mismatch, NoName, NoRule):
                    self.assertEqual(state(desk), before, deed)
                else:
                    self.assertIs(type(deed), tuple)
                    self.assertEqual(desk.notes()[-1], deed)


class Lists(unittest.TestCase):
    def test_one_after_the_other(self):
        desk = Desk()
        deeds = [("add", 0, CC), ("add", 0, AS), ("put", "Mc"), ("cut", 1), ("drop", "Mc"), ("put", "Ms")]
        self.assertIsNone(desk.all_done(deeds))
        self.assertEqual((desk.book, desk.files, desk.notes()), ((AS,), ("Ms",), deeds))
        # Each is a deed of its own.
        desk.undo()
        desk.undo()
        self.assertEqual((desk.files, desk.notes()), (("Mc",), deeds[:4]))

    def test_empty_list(self):
        desk = desk_of((CC,), ("Mc", "Nc"))
        desk.undo()
        before = state(desk)
        self.assertIsNone(desk.all_done([]))
        self.assertEqual(state(desk), before)
        desk.redo()
        self.assertEqual(desk.files, ("Mc", "Nc"))

    def test_whole_or_not_at_all(self):
        right = [("put", "A"), ("put", "B"), ("cut", 0), ("add", 0, LINK)]
        wrong = ((("put", "A"), NoName), (("cut", 1), NoRule), (("drop", "C"), NoName), (("add", 0, None), Mismatch), (None, Mismatch),
                 (("add", 2, LINK), NoRule))
        for at in range(len(right) + 1):
            for deed, kind in wrong[1:] if at == 0 else wrong:
                desk = desk_of((CC,), ("Mc", "Nc"))
                desk.undo()
                before = state(desk)
                if at == 3 and deed == ("add", 2, LINK):
                    kind = NoRule
                self.assertRaises(kind, desk.all_done, right[:at] + [deed] + right[at:])
                self.assertEqual(state(desk), before)
                desk.redo()
                self.assertEqual(desk.files, ("Mc", "Nc"))

    def test_later_deeds_rest_on_earlier_ones(self):
        desk = Desk()
        self.assertRaises(NoName, desk.all_done, [("put", "A"), ("put", "A")])
        desk.all_done([("put", "A"), ("drop", "A"), ("put", "A")])
        self.assertEqual(desk.files, ("A",))
        self.assertRaises(TooMany, desk.all_done, [("add", 0, CC)] * 7)
        self.assertEqual((desk.book, len(desk.notes())), ((), 3))
        desk.all_done([("add", 0, CC)] * 6)
        self.assertEqual(len(desk), 6)

    def test_lists_only(self):
        desk = Desk()
        for deeds in ((), (("put", "A"),), None, "put", {}, {0: ("put", "A")}, 0, True):
            self.assertRaises(Mismatch, desk.all_done, deeds)
        self.assertEqual(desk.files, ())


class Undo(unittest.TestCase):
    def test_each_deed_undone_and_done_again(self):
        desk = Desk()
        deeds = [("add", 0, CC), ("put", "Mc"), ("add", 0, AS), ("put", "Ms"), ("cut", 1), ("drop", "Mc"), ("add", 1, LINK)]
        states = [((), ())]
        for deed in deeds:
            desk.do(deed)
            states.append((desk.book, desk.files))
        for _ in range(2):
            for at in reversed(range(len(deeds))):
                self.assertIsNone(desk.undo())
                self.assertEqual(((desk.book, desk.files), desk.notes()), (states[at], deeds[:at]))
            self.assertRaises(NoMark, desk.undo)
            for at in range(len(deeds)):
                self.assertIsNone(desk.redo())
                self.assertEqual(((desk.book, desk.files), desk.notes()), (states[at + 1], deeds[:at + 1]))
            self.assertRaises(NoMark, desk.redo)

    def test_nothing_to_do(self):
        for call in (Desk().undo, Desk().redo):
            self.assertRaises(NoMark, call)

    def test_redo_only_until_the_next_deed(self):
        for call in (lambda desk: desk.do(("put", "Z")), lambda desk: desk.all_done([("put", "Z")])):
            desk = desk_of((CC,), ("Mc", "Nc"))
            desk.undo()
            desk.undo()
            call(desk)
            self.assertRaises(NoMark, desk.redo)
            self.assertEqual(desk.files, ("Z",))
            desk.undo()
            desk.redo()
            self.assertEqual(desk.files, ("Z",))

    def test_questions_and_refused_deeds_are_no_deeds(self):
        desk = desk_of((CC,), ("Mc", "Nc"))
        desk.undo()
        desk.way("Mo"), desk.can("Mo"), desk.news(["Mo"]), desk.notes(), len(desk), "A" in desk, desk == Desk()
        self.assertRaises(NoName, desk.do, ("put", "Mc"))
        desk.redo()
        self.assertEqual(desk.files, ("Mc", "Nc"))


class News(unittest.TestCase):
    def test_names_whose_way_is_another_one(self):
        desk = desk_of((CC,), ())
        desk.do(("put", "Mc"))
        told = desk.news(["No", "Mo", "Mc", "Mo"])
        self.assertEqual(told, [("Mo", None, ("Mo", "cc", ("Mc",))), ("Mc", None, ("Mc",)), ("Mo", None, ("Mo", "cc", ("Mc",)))])
        desk.do(("add", 0, AS))
        self.assertEqual(desk.news(["Mo"]), [])
        desk.do(("put", "Ms"))
        self.assertEqual(desk.news(["Mo"]), [("Mo", ("Mo", "cc", ("Mc",)), ("Mo", "as", ("Ms",)))])
        desk.do(("cut", 0))
        self.assertEqual(desk.news(["Mo", "Ms"]), [("Mo", ("Mo", "as", ("Ms",)), ("Mo", "cc", ("Mc",)))])
        desk.do(("drop", "Mc"))
        self.assertEqual(desk.news(["Mo", "Mc"]), [("Mo", ("Mo", "cc", ("Mc",)), None), ("Mc", ("Mc",), None)])
        self.assertEqual(desk.news([]), [])

    def test_behind_undo_and_redo(self):
        desk = desk_of((CC,), ("Mc", "Mo"))
        right = [("Mo", ("Mo", "cc", ("Mc",)), ("Mo",))]
        self.assertEqual(desk.news(["Mo", "Mc"]), right)
        desk.undo()
        # The last deed that is done is the one that put Mc.
        self.assertEqual(desk.news(["Mo", "Mc"]), [("Mo", None, ("Mo", "cc", ("Mc",))), ("Mc", None, ("Mc",))])
        desk.redo()
        self.assertEqual(desk.news(["Mo", "Mc"]), right)
        for _ in range(3):
            desk.undo()
        self.assertEqual(desk.news(["Mo", "Mc"]), [])

    def test_behind_lists_and_refused_deeds(self):
        desk = Desk()
        desk.all_done([("add", 0, CC), ("put", "Mc"), ("put", "Nc")])
        # Only what the last one changed.
        self.assertEqual([one[0] for one in desk.news(["Mo", "No", "Nc"])], ["No", "Nc"])
        self.assertRaises(NoName, desk.do, ("put", "Nc"))
        self.assertRaises(NoName, desk.all_done, [("put", "Qc"), ("put", "Qc")])
        desk.all_done([])
        self.assertEqual([one[0] for one in desk.news(["Mo", "No", "Nc", "Qc"])], ["No", "Nc"])

    def test_wrong_names(self):
        for desk in (Desk(), desk_of((CC,), ("Mc",))):
            for wrong in (None, (), ("Mo",), "Mo", {"Mo": 1}, 0, True):
                self.assertRaises(Mismatch, desk.news, wrong)
            for wrong in ([None], ["Mo", ""], ["aB"], [["Mo"]], ["Mo", 0], [True]):
                self.assertRaises(NoName, desk.news, wrong)


class Passed(unittest.TestCase):
    def test_lists_changed_afterwards(self):
        desk = Desk()
        deeds = [("add", 0, CC), ("put", "Mc")]
        desk.all_done(deeds)
        deeds.clear()
        desk.notes().clear()
        names = ["Mo"]
        desk.news(names).clear()
        self.assertEqual(names, ["Mo"])
        self.assertEqual(desk.notes(), [("add", 0, CC), ("put", "Mc")])
        desk.undo()
        desk.redo()
        self.assertEqual((desk.book, desk.files), ((CC,), ("Mc",)))
        one, other = desk.notes(), desk.notes()
        self.assertIsNot(one, other)

    def test_book_and_files_stay_what_they_were(self):
        desk = desk_of((CC,), ("Mc",))
        book, files = desk.book, desk.files
        self.assertEqual((type(book), type(files)), (tuple, tuple))
        desk.all_done([("cut", 0), ("drop", "Mc")])
        self.assertEqual((book, files), ((CC,), ("Mc",)))

    def test_desks_are_apart(self):
        one, other = Desk(), Desk()
        one.do(("put", "A"))
        self.assertEqual((other.files, other.notes()), ((), []))


class Equal(unittest.TestCase):
    def test_book_and_files(self):
        self.assertIs(Desk() == Desk(), True)
        self.assertIs(Desk() != Desk(), False)
        one = desk_of((CC, AS), ("Mc", "Nc"))
        other = Desk()
        other.all_done([("put", "Nc"), ("put", "Q"), ("add", 0, AS), ("put", "Mc"), ("add", 0, CC), ("drop", "Q")])
        # How they came to be so does not count.
        self.assertTrue(one == other and other == one)
        other.undo()
        self.assertTrue(one != other and other != one)
        for different in (desk_of((AS, CC), ("Mc", "Nc")), desk_of((CC, AS), ("Mc",)), desk_of((CC,), ("Mc", "Nc")), Desk()):
            self.assertIs(one == different, False)

    def test_other_objects(self):
        for desk in (Desk(), desk_of((CC,), ("Mc",))):
            for thing in ODD + [desk.book, desk.files, (desk.book, desk.files), [desk.book, desk.files], desk.notes(), Desk]:
                self.assertIs(desk == thing, False)
                self.assertIs(desk != thing, True)


class Plain:
    """A desk as its words tell it: all states are kept."""

    def __init__(self):
        self.states = [((), ())]
        self.deeds = []
        self.at = 0

    def do(self, deed):
        book, files = self.states[self.at]
        if deed[0] == "add":
            if type(deed[1]) is not int or not 0 <= deed[1] <= len(book):
                return NoRule
            if len(book) == 6:
                return TooMany
            book = book[:deed[1]] + (deed[2],) + book[deed[1]:]
        elif deed[0] == "cut":
            if not 0 <= deed[1] < len(book):
                return NoRule
            book = book[:deed[1]] + book[deed[1] + 1:]
        elif (deed[1] in files) == (deed[0] == "put"):
            return NoName
        else:
            files = ordered(files + (deed[1],)) if deed[0] == "put" else tuple(name for name in files if name != deed[1])
        self.states = self.states[:self.at + 1] + [(book, files)]
        self.deeds = self.deeds[:self.at] + [deed]
        self.at += 1
        return None

    def all_done(self, deeds):
        before = self.states, self.deeds, self.at
        for deed in deeds:
            kind = self.do(deed)
            if kind is not None:
                self.states, self.deeds, self.at = before
                return kind
        return None

    def step(self, by):
        if not 0 <= self.at + by < len(self.states):
            return NoMark
        self.at += by
        return None


class Walks(unittest.TestCase):
    def deed(self, chance):
        word = chance.choice(["add", "add", "add", "cut", "put", "put", "drop"])
        number = chance.choice([-1, 0, 0, 0, 1, 1, 2, 3, 5, 7])
        if word == "add":
            return word, number, chance.choice([CC, AS, LINK])
        return word, number if word == "cut" else chance.choice(["A", "Mc", "Ms", "LIBa", "Mo"])

    def told(self, call, *things):
        try:
            self.assertIsNone(call(*things))
        except RuleError as error:
            return type(error)
        return None

    def test_walks(self):
        chance = random.Random(101)
        seen = {}
        for _ in range(150):
            desk, plain = Desk(), Plain()
            for _ in range(40):
                kind = chance.choice(["do", "do", "do", "do", "list", "undo", "redo"])
                if kind == "do":
                    deed = self.deed(chance)
                    told, right = self.told(desk.do, deed), plain.do(deed)
                elif kind == "list":
                    deeds = [self.deed(chance) for _ in range(chance.randrange(4))]
                    told, right = self.told(desk.all_done, deeds), plain.all_done(deeds)
                else:
                    told, right = self.told(getattr(desk, kind)), plain.step(1 if kind == "redo" else -1)
                self.assertEqual(told, right)
                seen[kind, told] = seen.get((kind, told), 0) + 1
                book, files = plain.states[plain.at]
                self.assertEqual((desk.book, desk.files, desk.notes(), len(desk)), (book, files, plain.deeds[:plain.at], len(book)))
                names = ["Mexe", "Mo", "No", "LIBa"]
                for name in names:
                    self.assertEqual((desk.way(name), desk.can(name)), (way(book, files, name), can(book, files, name)))
                news = []
                if plain.at:
                    before = plain.states[plain.at - 1]
                    news = [(name, way(*before, name), way(book, files, name)) for name in names]
                self.assertEqual(desk.news(names), [one for one in news if one[1] != one[2]])
        self.assertTrue(min(seen.values()) > 5 and len(seen) >= 11, seen)


if __name__ == "__main__":
    unittest.main()
