"""A console: a desk that is changed and asked by lines of commands."""

from stemrules.books import kin
from stemrules.desk import Desk
from stemrules.errors import InvalidCommand
from stemrules.names import is_name
from stemrules.runs import run
from stemrules.sets import least_sets
from stemrules.texts import parse_rule
from stemrules.uses import first_use, needless

MOST_NAME_LETTERS = 40
MOST_NUMBER = 1000000
DIGITS = "0123456789"

# What stands behind the word of a command.
COMMANDS = {
    "add": "text", "put": "name", "drop": "name", "cut": "number", "undo": "", "redo": "", "rules": "", "files": "",
    "way": "name", "can": "name", "kin": "name", "least": "name", "run": "name", "used": "number", "needless": "number",
}


def add_rule(desk, text):
    """Adds the rule that a text tells at the end of the book."""
    desk.do(("add", len(desk), parse_rule(text)))
    return "ok"


def put_file(desk, name):
    """Puts a name to the files."""
    desk.do(("put", name))
    return "ok"


def drop_file(desk, name):
    """Drops a name from the files."""
    desk.do(("drop", name))
    return "ok"


def cut_rule(desk, number):
    """Takes a rule out of the book."""
    desk.do(("cut", number))
    return "ok"


def undo_deed(desk, _):
    """Undoes the last deed."""
    desk.undo()
    return "ok"


def redo_deed(desk, _):
    """Does the deed again that was undone last."""
    desk.redo()
    return "ok"


def tell_rules(desk, _):
    """How many rules there are."""
    return str(len(desk))


def tell_files(desk, _):
    """The files."""
    return names_text(desk.files)


def tell_way(desk, name):
    """Whether a name stands there, and if not, by which rule it is made."""
    told = desk.way(name)
    if told is None:
        return "none"
    return "there" if len(told) == 1 else f"made {told[1]}"


def tell_can(desk, name):
    """Whether a name can be made."""
    return yes_or_no(desk.can(name))


def tell_kin(desk, name):
    """How many kin a name has."""
    return str(len(kin(desk.book, name)))


def tell_least(desk, name):
    """How many least sets a name has."""
    return str(len(least_sets(desk.book, name)))


def tell_run(desk, name):
    """What a run with one wish makes."""
    made, _, _ = run(desk.book, desk.files, [name])
    return names_text(made)


def tell_used(desk, number):
    """By which name and files a rule is used first."""
    found = first_use(desk.book, number)
    if found is None:
        return "never"
    name, files = found
    return f"{name}: {names_text(files)}"


def tell_needless(desk, number):
    """Whether a rule is needless."""
    return yes_or_no(needless(desk.book, number))


ANSWERS = {
    "add": add_rule, "put": put_file, "drop": drop_file, "cut": cut_rule, "undo": undo_deed, "redo": redo_deed,
    "rules": tell_rules, "files": tell_files, "way": tell_way, "can": tell_can, "kin": tell_kin, "least": tell_least,
    "run": tell_run, "used": tell_used, "needless": tell_needless,
}


class Console:
    """A book and files, at first both empty, behind a row of commands."""

    def __init__(self):
        self._desk = Desk()

    def execute(self, line):
        """Does a command line and returns its answer."""
        word, argument = read_line(line)
        answer = ANSWERS[word]
        return answer(self._desk, argument)


def read_line(line):
    """The word of a command line and what stands behind it: a name, a number, or a text, perhaps an empty one."""
    head, mark, text = line.partition(" : ")
    words = head.split(" ")
    asked = COMMANDS.get(words[0])
    if asked is None or (mark != "") != (asked == "text"):
        raise InvalidCommand("this is no command")
    if len(words) != (2 if asked in ("name", "number") else 1):
        raise InvalidCommand("this command has other words")
    if asked == "name" and not is_short_name(words[1]):
        raise InvalidCommand("this command asks for a name")
    if asked == "number" and not is_number(words[1]):
        raise InvalidCommand("this command asks for a number")
    if asked == "name":
        return words[0], words[1]
    if asked == "number":
        return words[0], int(words[1])
    return words[0], text


def is_short_name(word):
    """Whether a word is a name that a command may have."""
    return is_name(word) and len(word) <= MOST_NAME_LETTERS


def is_number(word):
    """Whether a word is a number that a command may have, without leading zeros."""
    if word == "" or word.strip(DIGITS) != "" or len(word) > len(str(MOST_NUMBER)):
        return False
    return word == str(int(word)) and int(word) <= MOST_NUMBER


def names_text(names):
    """The text of some names, perhaps none."""
    return " ".join(names) if names else "none"


def yes_or_no(right):
    """The text of an answer that is yes or no."""
    return "yes" if right else "no"
