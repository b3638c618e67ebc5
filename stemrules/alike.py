"""Whether two books make alike, whether they are alike, and what parts them."""

from stemrules.books import need_book
from stemrules.classes import least_names, numbered_kin
from stemrules.names import ascending
from stemrules.sets import Makers
from stemrules.tellings import Tellings, first_set
from stemrules.ways import with_one_more


class Likeness:
    """For which sets of some kin two books tell the same; what was asked once is kept."""

    def __init__(self, one, other, names):
        self.one = Tellings(one, names)
        self.other = Tellings(other, names)
        self.known = {}

    def of(self, name, spent, other_spent):
        """The sets for which both tell the same way of a name, or both none, each without its spent rules."""
        key = (name, spent, other_spent)
        if key not in self.known:
            found = self.one.without_way(name, spent) & self.other.without_way(name, other_spent)
            found |= self.one.with_name(name)
            for number, sources, sets in self.one.told(name, spent):
                for other_number, other_sources, other_sets in self.other.told(name, other_spent):
                    both = sets & other_sets
                    if self.labelled_alike(number, other_number) and sources == other_sources:
                        longer = with_one_more(spent, number)
                        found |= self.of_all(sources, longer, with_one_more(other_spent, other_number), both)
            self.known[key] = found
        return self.known[key]

    def of_all(self, names, spent, other_spent, sets):
        """Those among some sets for which both tell the same of each one of several names."""
        found = sets
        for name in names:
            # For no sets nothing more is asked.
            if found:
                found &= self.of(name, spent, other_spent)
        return found

    def labelled_alike(self, number, other_number):
        """Whether a rule of the one book has the label of a rule of the other."""
        return self.one.book[number][0] == self.other.book[other_number][0]


def make_alike(one, other):
    """Whether two books make alike."""
    return makes_apart(one, other) is None


def are_alike(one, other):
    """Whether two books are alike."""
    return apart(one, other) is None


def makes_apart(one, other):
    """The least name, with the least files for it, that just one of two books makes; or None."""
    need_book(one)
    need_book(other)
    return first_parted(one, other, least_names(one, other), sets_that_one_makes)


def apart(one, other):
    """The least name, with the least files for it, of which two books tell unlike ways or one none; or None."""
    need_book(one)
    need_book(other)
    return first_parted(one, other, least_names(one, other), sets_told_unlike)


def first_parted(one, other, least, parted):
    """The first one of the least names of classes, with the least files for it, that parts two books; or None.

    All names of a class are parted alike: what is told of one, its kin exchanged, is told of another.
    """
    for name in least:
        names = ascending(list(numbered_kin(one, other, name)))
        sets = parted(one, other, names, name)
        if sets:
            return name, first_set(sets, names)
    return None


def sets_that_one_makes(one, other, names, name):
    """The sets of some kin from which just one of two books makes a name."""
    return Makers(one, names).of(name, ()) ^ Makers(other, names).of(name, ())


def sets_told_unlike(one, other, names, name):
    """The sets of some kin for which two books tell unlike ways of a name, or one none."""
    likeness = Likeness(one, other, names)
    return likeness.one.every() ^ likeness.of(name, (), ())
