"""Rules, books and files: what they are, which rules fit a name, and its kin."""

from stemrules.errors import Mismatch, NoBook, NoFiles, NoRule
from stemrules.names import SMALLS, ascending, filled, is_name, is_pattern, need_name, stem_within

MOST_LABEL_LETTERS = 8
MOST_NAME_LETTERS = 6
MOST_SOURCES = 3
MOST_RULES = 6
MOST_FILES = 60


def is_rule(thing):
    """Whether any object is a rule (label, pattern, sources)."""
    if not isinstance(thing, tuple) or len(thing) != 3:
        return False
    label, pattern, sources = thing
    return is_label(label) and is_pattern(pattern) and are_sources(sources)


def is_label(thing):
    """Whether any object is a label of a rule."""
    return isinstance(thing, str) and 1 <= len(thing) <= MOST_LABEL_LETTERS and thing.strip(SMALLS) == ""


def are_sources(thing):
    """Whether any object is the tuple of the sources of a rule."""
    if not isinstance(thing, tuple) or len(thing) > MOST_SOURCES:
        return False
    return all([is_rule_source(source) for source in thing])


def is_rule_source(thing):
    """Whether any object is a source that may stand in a rule, where names are short."""
    return is_pattern(thing) or is_name(thing) and len(thing) <= MOST_NAME_LETTERS


def is_book(thing):
    """Whether any object is a book: a tuple of rules."""
    if not isinstance(thing, tuple) or len(thing) > MOST_RULES:
        return False
    return all([is_rule(rule) for rule in thing])


def are_files(thing):
    """Whether any object is a set of files: an ascending tuple of different names."""
    if not isinstance(thing, tuple) or len(thing) > MOST_FILES:
        return False
    return all([is_name(name) for name in thing]) and thing == ascending(thing)


def fitting(book, name):
    """The ascending list of the numbers of the rules that fit a name."""
    need_book(book)
    need_name(name)
    return [number for number, _ in fitted(book, name, ())]


def sources_of(book, number, name):
    """The list of the names of the sources of a rule for a name."""
    need_book(book)
    if not is_number_in(book, number):
        raise NoRule("there is no rule with this number")
    need_name(name)
    _, pattern, sources = book[number]
    within = stem_within(pattern, name)
    if within is None:
        raise Mismatch("the rule does not fit the name")
    return [filled(source, within) for source in sources]


def kin(book, name):
    """The ascending tuple of the kin of a name."""
    need_book(book)
    need_name(name)
    return ascending(gathered(book, name, None))


def gathered(book, name, most):
    """The list of the kin of a name; once there are more than the most, some may be left out."""
    # What comes behind a chain hangs on which rules stand in it, not on their order. So names
    # are gathered by the set of the rules that led to them, a number with a bit for each rule:
    # at most 64 groups, and each group is whole before it is gone through.
    groups = [{} for _ in range(1 << len(book))]
    groups[0][name] = True
    found = {}
    for spent in range(1 << len(book)):
        found.update(groups[spent])
        if most is not None and len(found) > most:
            return list(found)
        for number, rule in enumerate(book):
            longer = spent | (1 << number)
            if longer != spent:
                made = sources_for_all(rule, list(groups[spent]))
                for source in made:
                    groups[longer][source] = True
    return list(found)


def sources_for_all(rule, names):
    """The list of the names of the sources of a rule for those of the names that it fits."""
    _, pattern, sources = rule
    found = []
    for name in names:
        within = stem_within(pattern, name)
        if within is not None:
            found.extend([filled(source, within) for source in sources])
    return found


def fitted(book, name, spent):
    """The list of (number, names of the sources) of the rules that fit a name and are not spent."""
    found = []
    for number, rule in enumerate(book):
        _, pattern, sources = rule
        within = stem_within(pattern, name)
        if within is not None and number not in spent:
            found.append((number, [filled(source, within) for source in sources]))
    return found


def need_book(thing):
    """Raises NoBook if any object is no book."""
    if not is_book(thing):
        raise NoBook("this is no book")


def need_files(thing):
    """Raises NoFiles if any object is no set of files."""
    if not are_files(thing):
        raise NoFiles("these are no files")


def need_things(book, files, name):
    """Raises NoBook, NoFiles or NoName for the first one of these that is none."""
    need_book(book)
    need_files(files)
    need_name(name)


def is_number_in(book, thing):
    """Whether any object is the number of a rule of a book; True and False are no numbers."""
    return isinstance(thing, int) and not isinstance(thing, bool) and 0 <= thing < len(book)
