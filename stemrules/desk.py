"""A desk: a book and files that are changed by deeds, which can be undone and done again."""

from stemrules.books import MOST_FILES, MOST_RULES, is_number_in, is_rule
from stemrules.errors import Mismatch, NoMark, NoName, NoRule, TooMany
from stemrules.names import ascending, need_name, need_names
from stemrules.ways import Search

# How many things stand behind the word of a deed.
WORDS = {"add": 2, "cut": 1, "put": 1, "drop": 1}


class Desk:
    """A book and files, at first both empty, and the deeds that changed them."""

    def __init__(self):
        self.book = ()
        self.files = ()
        # The deeds that are done, each with the book and the files ahead of it; and the deeds that
        # were undone, the last one of these at the end.
        self._done = []
        self._undone = []

    def __len__(self):
        """How many rules the book has."""
        return len(self.book)

    def __contains__(self, thing):
        """Whether any object is one of the files."""
        return thing in self.files

    def __eq__(self, other):
        """Whether any object is a desk with the same book and the same files."""
        if not isinstance(other, Desk):
            return False
        return self.book == other.book and self.files == other.files

    def do(self, deed):
        """Does a deed."""
        self.all_done([deed])

    def all_done(self, deeds):
        """Does the deeds of a list one after the other, or none of them."""
        if not isinstance(deeds, list):
            raise Mismatch("this is no list of deeds")
        book, files = self.book, self.files
        done = []
        for deed in deeds:
            done.append((deed, book, files))
            book, files = behind(deed, book, files)
        # No error behind this line, so that a refused list changes nothing.
        self.book = book
        self.files = files
        if done:
            self._done.extend(done)
            self._undone = []

    def undo(self):
        """Undoes the last deed that is done."""
        if not self._done:
            raise NoMark("there is nothing to undo")
        deed, book, files = self._done.pop()
        self.book = book
        self.files = files
        self._undone.append(deed)

    def redo(self):
        """Does the last deed again that was undone."""
        if not self._undone:
            raise NoMark("there is nothing to do again")
        deed = self._undone.pop()
        self._done.append((deed, self.book, self.files))
        book, files = behind(deed, self.book, self.files)
        self.book = book
        self.files = files

    def notes(self):
        """The list of the deeds that are done."""
        return [done[0] for done in self._done]

    def way(self, name):
        """The way of a name, None if there is none."""
        need_name(name)
        return Search(self.book, self.files).told(name, ())

    def can(self, name):
        """Whether a name can be made."""
        return self.way(name) is not None

    def news(self, names):
        """The list of (name, way before, way now) of the names that have another way by the last deed."""
        need_names(names)
        if not self._done:
            return []
        _, book, files = self._done[-1]
        before = Search(book, files)
        now = Search(self.book, self.files)
        told = [(name, before.told(name, ()), now.told(name, ())) for name in names]
        return [one for one in told if one[1] != one[2]]


def behind(deed, book, files):
    """The book and the files behind a deed, any object, that is done to a book and files."""
    need_deed(deed)
    if deed[0] == "add":
        return with_rule(book, deed[1], deed[2]), files
    if deed[0] == "cut":
        return without_rule(book, deed[1]), files
    if deed[0] == "put":
        return book, with_file(files, deed[1])
    return book, without_file(files, deed[1])


def need_deed(thing):
    """Raises Mismatch if any object does not have the form of a deed."""
    if not isinstance(thing, tuple) or len(thing) == 0 or not isinstance(thing[0], str):
        raise Mismatch("this is no deed")
    if WORDS.get(thing[0]) != len(thing) - 1:
        raise Mismatch("this is no deed")
    if thing[0] == "add" and not is_rule(thing[2]):
        raise Mismatch("this is no rule to add")


def with_rule(book, number, rule):
    """A book with a rule ahead of the one with this number, any object."""
    if not is_number_in(book + (rule,), number):
        raise NoRule("no rule can stand at this number")
    if len(book) == MOST_RULES:
        raise TooMany(MOST_RULES)
    return book[:number] + (rule,) + book[number:]


def without_rule(book, number):
    """A book without the rule with this number, any object."""
    if not is_number_in(book, number):
        raise NoRule("there is no rule with this number")
    return book[:number] + book[number + 1:]


def with_file(files, name):
    """Files with one more name, any object."""
    need_name(name)
    if name in files:
        raise NoName("this file stands there")
    if len(files) == MOST_FILES:
        raise TooMany(MOST_FILES)
    return ascending(files + (name,))


def without_file(files, name):
    """Files without a name, any object."""
    if name not in files:
        raise NoName("no such file stands there")
    return tuple([file for file in files if file != name])
