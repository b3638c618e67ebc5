"""The least sets of files that make a name, and its barriers."""

from stemrules.books import fitted, gathered, need_book, need_things
from stemrules.errors import TooMany
from stemrules.names import ascending, need_name
from stemrules.ways import with_one_more

MOST_KIN = 12


class Makers:
    """Which sets of some kin make a name, for one book; what was asked once is kept.

    A set is a number with a bit for each of the kin that is in it, and what makes a name is a
    number with a bit for each such set: so all sets are gone through at once.
    """

    def __init__(self, book, names):
        self.book = book
        self.columns = {name: column(at, len(names)) for at, name in enumerate(names)}
        self.known = {}

    def of(self, name, spent):
        """What makes a name without the spent rules."""
        key = (name, spent)
        if key not in self.known:
            found = self.columns[name]
            for number, sources in fitted(self.book, name, spent):
                found |= self.of_all(sources, with_one_more(spent, number))
            self.known[key] = found
        return self.known[key]

    def of_all(self, names, spent):
        """What makes each one of several names without the spent rules."""
        found = (1 << (1 << len(self.columns))) - 1
        for name in names:
            found &= self.of(name, spent)
        return found


def least_sets(book, name):
    """The list of the least sets of files that make a name, in order."""
    need_book(book)
    need_name(name)
    names = few_kin(book, name)
    return least_of(making(book, name, names), names)


def barriers(book, name):
    """The list of the least barriers of a name, in order."""
    need_book(book)
    need_name(name)
    names = few_kin(book, name)
    return least_of(barring(book, name, names), names)


def barrier(book, files, name):
    """The first least barrier of a name of which none stands in the files, None if it can be made."""
    need_things(book, files, name)
    for found in barriers(book, name):
        if none_in(found, files):
            return found
    return None


def shows_barrier(book, files, name, thing):
    """Whether any object is a barrier of a name, least or not, of which none stands in the files."""
    need_things(book, files, name)
    names = few_kin(book, name)
    if not isinstance(thing, tuple) or not all([one in names for one in thing]):
        return False
    if thing != ascending(thing) or not none_in(thing, files):
        return False
    return barring(book, name, names)[numbered(thing, names)]


def few_kin(book, name):
    """The ascending tuple of the kin of a name; raises TooMany if they are too many for sets of them."""
    found = gathered(book, name, MOST_KIN)
    if len(found) > MOST_KIN:
        raise TooMany(MOST_KIN)
    return ascending(found)


def column(at, many):
    """A number with a bit for each set of many names: whether the name at one place is in it."""
    # In the order of the sets' numbers, so many sets without this name and with it take turns.
    turn = 1 << at
    found = ((1 << turn) - 1) << turn
    for place in range(at + 1, many):
        found |= found << (1 << place)
    return found


def making(book, name, names):
    """A list with True for each set of the kin, by its number, with which a name can be made."""
    found = Makers(book, names).of(name, ())
    return [(found >> number) & 1 == 1 for number in range(1 << len(names))]


def barring(book, name, names):
    """A list with True for each set of the kin, by its number, that is a barrier of a name."""
    # If none of a set stands in the files, these are at most all other kin: the set whose number,
    # counted from the end, is the same.
    return [not made for made in reversed(making(book, name, names))]


def numbered(some, names):
    """The number of a set of the kin."""
    return sum([1 << at for at, name in enumerate(names) if name in some])


def least_of(holds, names):
    """The list of the least sets of the kin that hold, in order; with a set, all larger ones hold, too."""
    found = []
    for number, held in enumerate(holds):
        places = [at for at in range(len(names)) if (number >> at) & 1]
        if held and not any([holds[number - (1 << at)] for at in places]):
            found.append(tuple(places))
    return [tuple([names[at] for at in places]) for places in sorted(sorted(found), key=len)]


def none_in(names, files):
    """Whether none of several names stands in the files."""
    return not any([name in files for name in names])
