"""The ways of names for files, what they make, and the blocks of names that have no way."""

from stemrules.books import fitted, is_number_in, need_things
from stemrules.names import is_name


class Search:
    """The ways for one book and files; what was asked once is kept."""

    def __init__(self, book, files):
        self.book = book
        self.there = {name: True for name in files}
        self.known = {}

    def told(self, name, spent):
        """The way of a name without the spent rules, None if there is none."""
        if name in self.there:
            return (name,)
        key = (name, spent)
        if key not in self.known:
            self.known[key] = self.first_right(name, spent)
        return self.known[key]

    def forget(self):
        """Forgets what was asked, as other files are there now."""
        self.known = {}

    def first_right(self, name, spent):
        """The way that the first right rule gives to a name that is no file, None if none is right."""
        tried = fitted(self.book, name, spent)
        ready = [one for one in tried if all([source in self.there for source in one[1]])]
        for number, sources in ready + tried:
            longer = with_one_more(spent, number)
            if self.missing(sources, longer) is None:
                ways = [self.told(source, longer) for source in sources]
                return (name, self.book[number][0], *ways)
        return None

    def missing(self, names, spent):
        """The first one of several names that has no way without the spent rules, None if each has one."""
        for name in names:
            if self.told(name, spent) is None:
                return name
        return None


def way(book, files, name):
    """The way of a name for a book and files, None if there is none."""
    need_things(book, files, name)
    return Search(book, files).told(name, ())


def can(book, files, name):
    """Whether a name can be made; it can, too, if it stands in the files."""
    return way(book, files, name) is not None


def made_by(book, files, name):
    """The list of the names that the told way of a name makes, in the order of a run."""
    told = way(book, files, name)
    made = []
    if told is not None:
        make(told, {file: True for file in files}, made)
    return made


def shows_way(book, files, name, thing):
    """Whether any object is a way of a name, told or not."""
    need_things(book, files, name)
    return right_with(book, files, thing, name, [()]) != []


def block(book, files, name):
    """The list of the rows of a block of a name, None if the name can be made."""
    need_things(book, files, name)
    search = Search(book, files)
    if search.told(name, ()) is not None:
        return None
    rows = {}
    waiting = [(name, ())]
    while waiting:
        row = waiting.pop()
        if row not in rows:
            rows[row] = True
            waiting.extend(rows_behind(search, row))
    return list(rows)


def shows_block(book, files, name, thing):
    """Whether any object is a block of a name."""
    need_things(book, files, name)
    if not isinstance(thing, list) or not all([is_row(book, row) for row in thing]):
        return False
    rows = {row: True for row in thing}
    if len(rows) != len(thing) or (name, ()) not in rows:
        return False
    there = {file: True for file in files}
    return all([row[0] not in there and holds_out(book, rows, row) for row in thing])


def make(told, there, made):
    """Makes what a way makes: adds its names to what is there and, in order, to what is made."""
    name = told[0]
    if name in there:
        return
    for inner in told[2:]:
        make(inner, there, made)
    # Its own sources may have made the name on their way.
    if name not in there:
        there[name] = True
        made.append(name)


def with_one_more(spent, number):
    """Spent rules, an ascending tuple of numbers, with one more."""
    return tuple(sorted((*spent, number)))


def right_with(book, files, thing, name, spents):
    """The list of those among some spent rules without which any object is a way of a name."""
    # Rules may have the same label, so which one made a name may be open. All that can have
    # been spent before is passed at once: so each part of the object is looked at only once.
    if name_of(thing) != name:
        return []
    if len(thing) == 1:
        return spents if name in files else []
    names = [name_of(inner) for inner in thing[2:]]
    numbers = [number for number, sources in fitted(book, name, ()) if book[number][0] == thing[1] and sources == names]
    longer = {with_one_more(spent, number): True for spent in spents for number in numbers if number not in spent}
    right = list(longer)
    for inner, inner_name in zip(thing[2:], names):
        if right:
            right = right_with(book, files, inner, inner_name, right)
    return [spent for spent in spents if any([is_right_with(spent, number, right) for number in numbers])]


def is_right_with(spent, number, right):
    """Whether a rule is not spent and, as one more spent one, among those that are right."""
    return number not in spent and with_one_more(spent, number) in right


def name_of(thing):
    """What stands at a way's first place, where its name is; None if any object has no such place."""
    return thing[0] if isinstance(thing, tuple) and thing != () else None


def rows_behind(search, row):
    """The list of the rows that a row of a block asks for: for each rule one source that is missing."""
    name, spent = row
    found = []
    for number, sources in fitted(search.book, name, spent):
        longer = with_one_more(spent, number)
        found.append((search.missing(sources, longer), longer))
    return found


def is_row(book, thing):
    """Whether any object has the form of a row (name, spent) of a block."""
    if not isinstance(thing, tuple) or len(thing) != 2:
        return False
    name, spent = thing
    if not is_name(name) or not isinstance(spent, tuple):
        return False
    if not all([is_number_in(book, number) for number in spent]):
        return False
    return all([one < other for one, other in zip(spent, spent[1:])])


def holds_out(book, rows, row):
    """Whether each rule that may make a row's name asks for a source that is a row, too."""
    name, spent = row
    for number, sources in fitted(book, name, spent):
        longer = with_one_more(spent, number)
        if not any([(source, longer) in rows for source in sources]):
            return False
    return True
