"""Which rules of a book are used, which are needless, and which can be exchanged with the next one."""

from stemrules.alike import first_parted, sets_told_unlike
from stemrules.books import is_number_in, need_book
from stemrules.classes import least_names, numbered_kin
from stemrules.errors import NoRule
from stemrules.names import ascending
from stemrules.tellings import Tellings, first_set
from stemrules.ways import with_one_more


class Uses:
    """For which sets of some kin a rule is used; what was asked once is kept."""

    def __init__(self, book, number, names):
        self.tellings = Tellings(book, names)
        self.number = number
        self.known = {}

    def of(self, name, spent):
        """The sets for which the told way of a name without the spent rules, or a way within it, uses the rule."""
        key = (name, spent)
        if key not in self.known:
            found = 0
            for number, sources, sets in self.tellings.told(name, spent):
                if number == self.number:
                    found |= sets
                else:
                    found |= sets & self.of_one(sources, with_one_more(spent, number))
            self.known[key] = found
        return self.known[key]

    def of_one(self, names, spent):
        """The sets for which the told way of one of several names uses the rule."""
        found = 0
        for name in names:
            found |= self.of(name, spent)
        return found


def first_use(book, number):
    """The least name, with the least files for it, by which a rule is used; or None."""
    need_rule(book, number)
    for name in least_names(book, ()):
        names = ascending(list(numbered_kin(book, (), name)))
        sets = Uses(book, number, names).of(name, ())
        if sets:
            return name, first_set(sets, names)
    return None


def needless(book, number):
    """Whether the book without a rule is alike to the book."""
    need_rule(book, number)
    return stays_alike(book, without(book, number), least_names(book, ()))


def exchanges(book):
    """The ascending list of the numbers of the rules that can be exchanged with the next one."""
    need_book(book)
    least = least_names(book, ())
    return [number for number in range(len(book) - 1) if stays_alike(book, exchanged(book, number), least)]


def needless_rules(book):
    """The ascending list of the numbers of the rules that are needless, each by itself."""
    need_book(book)
    least = least_names(book, ())
    return [number for number in range(len(book)) if stays_alike(book, without(book, number), least)]


def need_rule(book, number):
    """Raises NoBook if any object is no book, NoRule if another one is no number of a rule of it."""
    need_book(book)
    if not is_number_in(book, number):
        raise NoRule("there is no rule with this number")


def without(book, number):
    """A book without one of its rules."""
    return book[:number] + book[number + 1:]


def exchanged(book, number):
    """A book with one of its rules and the next one in the other order."""
    return book[:number] + (book[number + 1], book[number]) + book[number + 2:]


def stays_alike(book, changed, least):
    """Whether a book is alike to what was made of it out of no other rules."""
    # Such a book has no chains but those of the first one: the least names of its classes do for both.
    return first_parted(book, changed, least, sets_told_unlike) is None
