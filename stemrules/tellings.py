"""Which rules tell the ways of names, for all sets of some kin at once, and the least of such sets."""

from stemrules.books import fitted
from stemrules.sets import Makers
from stemrules.ways import with_one_more


class Tellings:
    """By which rule a way is told, for one book; what was asked once is kept.

    As with Makers, a set of the kin is a number with a bit for each of them, and several sets are a
    number with a bit for each set.
    """

    def __init__(self, book, names):
        self.book = book
        self.makers = Makers(book, names)
        self.known = {}

    def every(self):
        """All sets."""
        return self.makers.of_all([], ())

    def with_name(self, name):
        """The sets in which a name stands."""
        return self.makers.columns[name]

    def without_way(self, name, spent):
        """The sets for which a name has no way without the spent rules."""
        return self.every() ^ self.makers.of(name, spent)

    def told(self, name, spent):
        """The list of (number, sources, sets) of the rules that may give a name's way: they do for these sets."""
        key = (name, spent)
        if key not in self.known:
            self.known[key] = self.shared_out(name, spent)
        return self.known[key]

    def shared_out(self, name, spent):
        """As told, worked out anew."""
        tried = fitted(self.book, name, spent)
        ready = [self.with_names(sources) for _, sources in tried]
        right = [self.makers.of_all(sources, with_one_more(spent, number)) for number, sources in tried]
        left = self.every() ^ self.with_name(name)
        given = [0] * len(tried)
        for suited in (ready, right):
            for at, sets in enumerate(suited):
                given[at] |= left & sets
                left ^= left & sets
        return [(number, sources, given[at]) for at, (number, sources) in enumerate(tried)]

    def with_names(self, names):
        """The sets in which all of several names stand."""
        found = self.every()
        for name in names:
            found &= self.with_name(name)
        return found


def first_set(sets, names):
    """The first one of several sets of some names, one at least: the tuple of its names."""
    found = []
    for number in range(1 << len(names)):
        if (sets >> number) & 1:
            found.append([at for at in range(len(names)) if (number >> at) & 1])
    return tuple([names[at] for at in min(sorted(found), key=len)])
