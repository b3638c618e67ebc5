"""Wrong things in each place of the functions of the stages 3 to 9, the order of their errors, what stays."""

import copy
import itertools
import unittest

from stemrules.alike import apart, are_alike, make_alike, makes_apart
from stemrules.classes import class_names, same_class
from stemrules.errors import Mismatch, NoBook, NoFiles, NoName, NoRule, RuleError, TooMany
from stemrules.runs import files_after, run, settled
from stemrules.sets import barrier, barriers, least_sets, shows_barrier
from stemrules.tables import lean, parting, row_for, table
from stemrules.uses import exchanges, first_use, needless, needless_rules
from stemrules.ways import block, can, made_by, shows_block, shows_way, way
from tests.things import ODD, changed, plain_book, plain_files, plain_name

BOOK = (("link", ("", "exe"), (("", "o"), "LIBa")), ("cc", ("", "o"), (("", "c"),)))
FILES = ("Mc", "LIBa")
# Too much for the sets of the name, and for the table.
WIDE = (("x", ("", "a"), (("", "a"),) * 3),) * 4 + (("x", ("", "a"), ("A", "B", "C")), ("x", ("", "a"), ("D", "E", "F")))
MUCH = tuple(("x", ("", "exe"), tuple(("A" + one + other, "exe") for other in "FGH")) for one in "BCDE")

# The kinds of the arguments, and the limit that is told behind their errors.
CALLS = (
    (way, ("book", "files", "name"), None), (can, ("book", "files", "name"), None), (made_by, ("book", "files", "name"), None),
    (shows_way, ("book", "files", "name", "thing"), None), (block, ("book", "files", "name"), None),
    (shows_block, ("book", "files", "name", "thing"), None),
    (least_sets, ("book", "name"), 12), (barriers, ("book", "name"), 12), (barrier, ("book", "files", "name"), 12),
    (shows_barrier, ("book", "files", "name", "thing"), 12),
    (table, ("book",), 300), (row_for, ("book", "files", "name"), 300), (parting, ("book", "book"), 300), (lean, ("book",), 300),
    (class_names, ("book", "book"), 12), (same_class, ("book", "book", "name", "name"), 12),
    (make_alike, ("book", "book"), 12), (are_alike, ("book", "book"), 12), (makes_apart, ("book", "book"), 12), (apart, ("book", "book"), 12),
    (first_use, ("book", "number"), 12), (needless, ("book", "number"), 12), (exchanges, ("book",), 12), (needless_rules, ("book",), 12),
    (run, ("book", "files", "wishes"), None), (files_after, ("book", "files", "wishes", "swept"), None), (settled, ("book", "files", "wishes"), None),
)

RIGHT = {"book": (BOOK,), "files": (FILES,), "name": ("Mexe",), "thing": (None, ("Mexe",), [("Mexe", ())]),
         "number": (0, 1), "wishes": (["Mexe", "Zexe"], []), "swept": (True, False)}
WRONG = {
    "book": ([], [BOOK], None, BOOK[0], BOOK * 4, "Mexe"),
    "files": ([], ["Mc"], ("Mc", "Mc"), ("LIBa", "Mc"), "Mc", None, tuple("A" * many for many in range(1, 62))),
    "name": ("", "aB", None, ("Mexe",), ["Mexe"], 0),
    "thing": (None,),
    "number": (-1, 6, 10 ** 12, True, False, None, "0", (0,), [0]),
    "wishes": (None, "Mexe", ("Mexe",), {"Mexe": 0}, ["Mexe", None, ""], ["aB"], [["Mexe"]], [True], [0, "Mexe"]),
    "swept": (True,),
}
PLAIN = {
    "book": plain_book, "files": plain_files, "name": plain_name, "number": lambda thing: type(thing) is int and 0 <= thing < len(BOOK),
    "wishes": lambda thing: type(thing) is list and all(plain_name(name) for name in thing),
}
ERRORS = {"book": NoBook, "files": NoFiles, "name": NoName, "number": NoRule, "wishes": None}


def error_of(kind, wrong):
    """The error that is told of a wrong thing of a kind."""
    if kind == "wishes":
        return NoName if isinstance(wrong, list) else Mismatch
    return ERRORS[kind]


def refused(case, kind, call, things):
    with case.assertRaises(RuleError) as caught:
        call(*things)
    case.assertIs(type(caught.exception), kind, call)


class Refused(unittest.TestCase):
    def test_right_things_are_let(self):
        for call, kinds, _ in CALLS:
            for things in itertools.product(*[RIGHT[kind] for kind in kinds]):
                call(*things)

    def test_first_wrong_thing_is_told(self):
        for call, kinds, _ in CALLS:
            for at, kind in enumerate(kinds):
                if kind in ERRORS:
                    ahead = [RIGHT[other][:1] for other in kinds[:at]]
                    behind = [RIGHT[other][:1] + WRONG[other] for other in kinds[at + 1:]]
                    for things in itertools.product(*ahead, WRONG[kind], *behind):
                        refused(self, error_of(kind, things[at]), call, things)

    def test_objects_of_any_form(self):
        for call, kinds, _ in CALLS:
            for at, kind in enumerate(kinds):
                if kind in ERRORS:
                    things = [RIGHT[other][0] for other in kinds]
                    for odd in ODD:
                        if not PLAIN[kind](odd):
                            things[at] = odd
                            refused(self, error_of(kind, odd), call, things)

    def test_right_things_bent_at_one_place(self):
        for call, kinds, _ in CALLS:
            for at, kind in enumerate(kinds):
                if kind in ERRORS:
                    things = [RIGHT[other][0] for other in kinds]
                    for other in itertools.islice(changed(things[at]), 0, None, 7):
                        if not PLAIN[kind](other):
                            things[at] = other
                            refused(self, error_of(kind, other), call, things)

    def test_sixty_one_files(self):
        sixty = tuple("A" * many for many in range(1, 61))
        for call, kinds, _ in CALLS:
            if "files" in kinds:
                things = [RIGHT[kind][0] for kind in kinds]
                things[1] = sixty
                call(*things)
                things[1] = sixty + ("A" * 61,)
                refused(self, NoFiles, call, things)

    def test_limits_are_told_last(self):
        for call, kinds, limit in CALLS:
            if limit is None:
                continue
            for place in [at for at, kind in enumerate(kinds) if kind == "book"]:
                things = [RIGHT[kind][0] for kind in kinds]
                things[place] = MUCH if limit == 12 else WIDE
                with self.assertRaises(TooMany) as caught:
                    call(*things)
                self.assertEqual(caught.exception.limit, limit)
                for at, kind in enumerate(kinds):
                    if at != place and kind in ERRORS:
                        for wrong in WRONG[kind]:
                            refused(self, error_of(kind, wrong), call, things[:at] + [wrong] + things[at + 1:])


class Stays(unittest.TestCase):
    def test_what_is_passed_stays(self):
        odd = [[list(BOOK[0]), BOOK[1]], [], ["Mexe"], {"A": ["b"]}, ("x", [], {}), [("Mexe", ()), ("LIBa", (0,))],
               [["Mexe", []]], ("Mexe", "link", ["Mo"], ("LIBa",)), BOOK, FILES, "Mexe", None]
        for call, kinds, _ in CALLS:
            for at in range(len(kinds)):
                for thing in odd:
                    things = [RIGHT[kind][0] for kind in kinds]
                    things[at] = thing
                    before = copy.deepcopy(things)
                    try:
                        call(*things)
                    except RuleError:
                        pass
                    self.assertEqual(repr(things), repr(before), call)

    def test_a_call_has_no_effect_on_later_ones(self):
        told = [call(*[RIGHT[kind][0] for kind in kinds]) for call, kinds, _ in CALLS]
        for again in range(2):
            for at, (call, kinds, _) in enumerate(CALLS):
                found = call(*[RIGHT[kind][0] for kind in kinds])
                self.assertEqual(found, told[at], call)
                if isinstance(found, list):
                    self.assertIsNot(found, told[at], call)
                    found.clear()

    def test_kinds_of_what_is_told(self):
        kinds_told = {can: bool, shows_way: bool, shows_block: bool, shows_barrier: bool, made_by: list, least_sets: list,
                      barriers: list, table: list, lean: tuple, way: tuple, row_for: tuple, class_names: list, same_class: bool,
                      make_alike: bool, are_alike: bool, needless: bool, exchanges: list, needless_rules: list, first_use: tuple,
                      run: tuple, settled: tuple, files_after: tuple}
        for call, kinds, _ in CALLS:
            if call in kinds_told:
                found = call(*[RIGHT[kind][0] for kind in kinds])
                self.assertIs(type(found), kinds_told[call], call)


if __name__ == "__main__":
    unittest.main()
