"""The console: point 14 and the section of stage 12."""

import random
import unittest

from stemrules.books import kin
from stemrules.console import Console
from stemrules.desk import Desk
from stemrules.errors import InvalidCommand, NoMark, NoName, NoRule, RuleError, SyntaxProblem, TooMany
from stemrules.runs import run
from stemrules.sets import least_sets
from stemrules.texts import format_rule, parse_rule
from stemrules.uses import first_use, needless
from tests.test_classes import TWELVE, WIDE

LINES = ["add : link : *exe < *o LIBa", "add : cc : *o < *c", "put Mc", "put LIBa"]
LONG = "A" * 40
NAME_WORDS = ("put", "drop", "way", "can", "kin", "least", "run")
NUMBER_WORDS = ("cut", "used", "needless")
BARE_WORDS = ("undo", "redo", "rules", "files")


def console_of(*lines):
    console = Console()
    for line in lines:
        if console.execute(line) != "ok":
            raise AssertionError(line)
    return console


def state(console):
    """What a console shows, but for what can be undone and done again."""
    rows = [console.execute(line) for line in ("rules", "files", "way Mexe", "run Mexe", "way Mo")]
    return rows + [console.execute(f"used {number}") for number in range(int(rows[0])) if rows[0] < "5"]


class Refusing(unittest.TestCase):
    def refused(self, console, command, kind, **fields):
        """A line is refused with this error, and nothing changes."""
        before = state(console)
        with self.assertRaises(RuleError) as caught:
            console.execute(command)
        self.assertIs(type(caught.exception), kind, repr(command))
        for field, value in fields.items():
            self.assertEqual(getattr(caught.exception, field), value, repr(command))
        self.assertEqual(state(console), before, repr(command))


class Commands(Refusing):
    def test_empty_at_first(self):
        console = Console()
        self.assertEqual([console.execute(line) for line in ("rules", "files", "way A", "can A", "kin A", "least A", "run A")],
                         ["0", "none", "none", "no", "1", "1", "none"])

    def test_add(self):
        console = Console()
        for at, line in enumerate(("add : cc : *o < *c", "add : x:A*<", "add :   cc\t: *o<*c  LIBa ", "add : y : *a < A*")):
            self.assertEqual(console.execute(line), "ok")
            self.assertEqual(console.execute("rules"), str(at + 1))
        # At the end: what was there goes first.
        console = console_of("add : first : A* <", "add : second : A* <")
        self.assertEqual(console.execute("way A"), "made first")

    def test_put_drop_files(self):
        console = Console()
        for line, right in (("put Mc", "Mc"), ("put b", "b Mc"), ("put A", "A b Mc"), ("drop b", "A Mc"), ("drop A", "Mc"), ("drop Mc", "none")):
            self.assertEqual([console.execute(line), console.execute("files")], ["ok", right])

    def test_cut(self):
        console = console_of("add : first : A* <", "add : second : A* <", "add : third : A* <")
        for line, right in (("cut 1", "first"), ("cut 0", "third"), ("cut 0", "none")):
            self.assertEqual([console.execute(line), console.execute("way A").split(" ")[-1]], ["ok", right])

    def test_undo_redo(self):
        console = console_of(*LINES)
        self.assertEqual([console.execute(line) for line in ("undo", "files", "undo", "files", "redo", "files", "undo", "undo", "rules", "undo", "rules")],
                         ["ok", "Mc", "ok", "none", "ok", "Mc", "ok", "ok", "1", "ok", "0"])
        self.refused(console, "undo", NoMark)
        self.assertEqual([console.execute("redo") for _ in range(4)], ["ok"] * 4)
        self.refused(console, "redo", NoMark)
        self.assertEqual(console.execute("way Mexe"), "made link")

    def test_way_can(self):
        console = console_of(*LINES)
        for name, way, can in (("Mexe", "made link", "yes"), ("Mc", "there", "yes"), ("Mo", "made cc", "yes"), ("Zexe", "none", "no"), ("A", "none", "no")):
            self.assertEqual([console.execute("way " + name), console.execute("can " + name)], [way, can])

    def test_kin_least_run(self):
        console = console_of(*LINES)
        self.assertEqual([console.execute(word + " Mexe") for word in ("kin", "least", "run")], ["4", "3", "Mo Mexe"])
        self.assertEqual([console.execute(word + " Zexe") for word in ("kin", "least", "run")], ["4", "3", "none"])
        self.assertEqual([console.execute(word + " Mc") for word in ("kin", "least", "run")], ["1", "1", "none"])
        # Files stay.
        self.assertEqual(console.execute("files"), "Mc LIBa")
        console.execute("add : x : *q <")
        self.assertEqual([console.execute(word + " Mq") for word in ("kin", "least", "run", "way")], ["1", "1", "Mq", "made x"])

    def test_used_needless(self):
        console = console_of(*LINES, "add : cc : A*o < A*c", "add : x : *q <")
        self.assertEqual([console.execute(f"used {number}") for number in range(4)], ["exe: c LIBa", "o: c", "never", "q: none"])
        self.assertEqual([console.execute(f"needless {number}") for number in range(4)], ["no", "no", "yes", "no"])

    def test_answers_are_those_of_the_functions(self):
        chance = random.Random(121)
        rules = ["x : A* < B*", "y : *a < *b", "z : B* < Q R", "x : *b <", "w : AB* < A* B", "y : *b < *a"]
        for _ in range(150):
            console, desk = Console(), Desk()
            for text in chance.sample(rules, chance.randrange(5)):
                self.assertEqual(console.execute("add : " + text), "ok")
                desk.do(("add", len(desk), parse_rule(text)))
            for name in chance.sample(["B", "Bb", "Q", "Ab", "b"], chance.randrange(4)):
                self.assertEqual(console.execute("put " + name), "ok")
                desk.do(("put", name))
            for name in ("Aa", "ABa", "Bb", "Q", "a", "ABBab"):
                way = desk.way(name)
                told = "none" if way is None else "there" if len(way) == 1 else "made " + way[1]
                self.assertEqual(console.execute("way " + name), told)
                self.assertEqual(console.execute("can " + name), "yes" if desk.can(name) else "no")
                self.assertEqual(console.execute("kin " + name), str(len(kin(desk.book, name))))
                self.assertEqual(console.execute("least " + name), str(len(least_sets(desk.book, name))))
                self.assertEqual(console.execute("run " + name), " ".join(run(desk.book, desk.files, [name])[0]) or "none")
            for number in range(len(desk)):
                use = first_use(desk.book, number)
                self.assertEqual(console.execute(f"used {number}"), "never" if use is None else use[0] + ": " + (" ".join(use[1]) or "none"))
                self.assertEqual(console.execute(f"needless {number}"), "yes" if needless(desk.book, number) else "no")

    def test_consoles_are_apart(self):
        one, other = console_of(*LINES), Console()
        self.assertEqual((one.execute("rules"), other.execute("rules")), ("2", "0"))

    def test_answers_are_strings(self):
        console = console_of(*LINES)
        for line in ("undo", "redo", "rules", "files", "way A", "can A", "kin A", "least A", "run A", "used 0", "needless 0", "cut 0", "put A", "drop A"):
            self.assertIs(type(console.execute(line)), str, line)


class Words(Refusing):
    def test_no_commands(self):
        for line in ("", " ", "\n", "nothing", "Add : x : A* <", "ADD", "adds : x : A* <", "way", "mark A", "put", "1", "undone", "redo2", "files\n", "\tfiles",
                     "fi les", ":", " : ", " : x : A* <", "rule", "a" * 5000, "way " + "A" * 4996, "execute", "used", "cut", "needless", "len", "get A"):
            self.refused(console_of(*LINES), line, InvalidCommand)

    def test_right_lines_with_one_space_more_or_less(self):
        for line in ["put Q", "drop Mc", "cut 0", "undo", "redo", "rules", "files", "way Mexe", "can Mexe", "kin Mexe", "least Mexe", "run Mexe",
                     "used 0", "needless 0"]:
            console = console_of(*LINES, "put Nc", "undo" if line == "redo" else "put Oc")
            for wrong in (" " + line, line + " ", line + "  ", line.replace(" ", "  "), line.replace(" ", ""), line.replace(" ", "\t"), "\t" + line,
                          line + "\t", line + "\n", line.upper(), line.title(), line + " A", line + " 0", line + ";", line + " : ", line + " : x : A* <",
                          line + " :", line + ":", line + " " + line, line[1:], line[:-1] + "$"):
                if wrong != line:
                    self.refused(console, wrong, InvalidCommand)
            self.assertIs(type(console.execute(line)), str)

    def test_add_needs_a_text(self):
        for line in ("add", "add ", "add :", "add:", "add:x:A*<", "add :x", "add x : A* <", "add  : x : A* <", "add A : x : A* <",
                     " add : x : A* <", "add\t: x : A* <", "add :\tx:A*<", "add :\nx:A*<", "add 0 : x : A* <", "add Q"):
            self.refused(console_of(*LINES), line, InvalidCommand)

    def test_text_behind_the_first_mark(self):
        # In this line the first mark stands within the rule.
        self.refused(Console(), "add :x : A* <", InvalidCommand)
        self.refused(Console(), "add : x", SyntaxProblem, line=1, column=2)
        self.refused(Console(), "add : ", SyntaxProblem, line=1, column=1)
        self.refused(Console(), "add :  : A* <", SyntaxProblem, line=1, column=2)

    def test_text_where_none_is_asked_for(self):
        for word in NAME_WORDS:
            self.refused(console_of(*LINES), word + " A : x : A* <", InvalidCommand)
            self.refused(console_of(*LINES), word + " A : ", InvalidCommand)
            self.refused(console_of(*LINES), word + " : A", InvalidCommand)
        for word in NUMBER_WORDS:
            self.refused(console_of(*LINES), word + " 0 : ", InvalidCommand)
            self.refused(console_of(*LINES), word + " : 0", InvalidCommand)
        for word in BARE_WORDS:
            self.refused(console_of(*LINES), word + " : ", InvalidCommand)
            self.refused(console_of(*LINES), word + " : x : A* <", InvalidCommand)

    def test_names(self):
        for word in NAME_WORDS:
            for name in ("", "aB", "A1", "*", "*o", "A*", "A-b", "Ab\n", "AbC", "0", "A" * 41, "a" * 41, "A" * 20 + "b" * 21, "A" * 4000):
                self.refused(console_of(*LINES), word + " " + name, InvalidCommand)
            for words in ("", " A B", " A A A", " Mc 0"):
                self.refused(console_of(*LINES), word + words, InvalidCommand)
        console = Console()
        for word in ("put", "way", "can", "kin", "least", "run", "drop"):
            self.assertIs(type(console.execute(word + " " + LONG)), str)

    def test_numbers(self):
        for word in NUMBER_WORDS:
            for number in ("", "00", "01", "000", "-1", "+1", "-0", "1.0", "0x1", "1_0", "a", "A", "1000001", "9999999", "0000001", "10000000", "1" * 4990,
                           "0" * 4990, "9" * 20, "1 0", "0 0", "0\t", "\n0", "1e3"):
                self.refused(console_of(*LINES), word + " " + number, InvalidCommand)
            for number in ("2", "3", "10", "999999", "1000000"):
                self.refused(console_of(*LINES), word + " " + number, NoRule)
            self.refused(Console(), word + " 0", NoRule)


class Orders(Refusing):
    def test_nothing_to_do(self):
        self.refused(Console(), "undo", NoMark)
        self.refused(console_of(*LINES), "redo", NoMark)
        self.refused(Console(), "undo ", InvalidCommand)
        self.refused(Console(), "redo A", InvalidCommand)

    def test_texts_that_are_wrong(self):
        for text, column in (("cc : *o", 8), ("cc *o", 4), ("cc : *o < *c $", 14), ("x : A* < A B C D", 16), ("x : A* <\n", 9), ("X : A* <", 1),
                             (" : x : A* <", 2), ("x : A* < : ", 10)):
            self.refused(console_of(*LINES), "add : " + text, SyntaxProblem, line=1, column=column)

    def test_seventh_rule_behind_the_text(self):
        console = console_of(*["add : x : A* <"] * 6)
        self.refused(console, "add : x : A* <", TooMany, limit=6)
        self.refused(console, "add : x : A* ", SyntaxProblem, line=1, column=8)
        self.refused(console, "add x : x : A* ", InvalidCommand)
        self.assertEqual([console.execute("cut 5"), console.execute("add : y : A* <")], ["ok", "ok"])

    def test_sixty_first_file(self):
        console = console_of(*["put " + one + other for one in "ABCDEF" for other in "abcdefghij"])
        self.refused(console, "put Zz", TooMany, limit=60)
        self.refused(console, "put Aa", NoName)
        self.refused(console, "put aA", InvalidCommand)
        self.assertEqual(len(console.execute("files").split(" ")), 60)

    def test_what_the_desk_refuses(self):
        console = console_of(*LINES)
        self.refused(console, "put Mc", NoName)
        self.refused(console, "drop Nc", NoName)
        self.refused(console, "cut 2", NoRule)
        # What could be done again still can.
        console.execute("undo")
        for line, kind in (("put Mc", NoName), ("cut 2", NoRule), ("add : x", SyntaxProblem), ("nothing", InvalidCommand), ("used 2", NoRule)):
            self.refused(console, line, kind)
        self.assertEqual([console.execute("redo"), console.execute("files")], ["ok", "Mc LIBa"])

    def test_too_many_kin_behind_no_rule(self):
        console = console_of(*["add : " + format_rule(rule) for rule in WIDE])

        def told(line):
            with self.assertRaises(RuleError) as caught:
                console.execute(line)
            return type(caught.exception), getattr(caught.exception, "limit", None)

        for line in ("used 0", "needless 3", "least a", "least Za"):
            self.assertEqual(told(line), (TooMany, 12))
        for line in ("used 4", "needless 4"):
            self.assertEqual(told(line), (NoRule, None))
        self.assertEqual(told("used 04"), (InvalidCommand, None))
        self.assertEqual([console.execute(line) for line in ("least b", "kin a", "run a", "can a", "rules")], ["1", "13", "none", "no", "4"])
        console = console_of(*["add : " + format_rule(rule) for rule in TWELVE])
        self.assertEqual([console.execute(line) for line in ("kin a", "least a", "used 3", "needless 3")], ["12", "5", "a: ex ey", "no"])


if __name__ == "__main__":
    unittest.main()
