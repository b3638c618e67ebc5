"""The classes of the names at which the rules of two books look alike, and the least name of each."""

from stemrules.books import need_book
from stemrules.errors import TooMany
from stemrules.names import CAPITALS, LETTERS, ascending, filled, need_name, stem_within
from stemrules.sets import MOST_KIN
from stemrules.tables import meeting
from stemrules.ways import with_one_more


def class_names(one, other):
    """The ascending list of the least names of the classes of two books."""
    need_book(one)
    need_book(other)
    return least_names(one, other)


def same_class(one, other, name, more):
    """Whether two names are in one class of two books."""
    need_book(one)
    need_book(other)
    need_name(name)
    need_name(more)
    first = looks(one, other, name)
    return looks(one, other, more) == first


def least_names(one, other):
    """As class_names, for what are known to be books.

    All names are gone through as open ones: each of these stands for those of its names at which
    no more rules fit in a chain than at all of them. Which of its open kin are the same, its
    letters tell; so these names are in one class, but for those at which an open kin is a plain
    one, or a source in the books. Such a name is alone in its class: the plain name goes with
    itself alone, and the chain from the one to the other tells all letters.
    """
    rules = one + other
    plain = plain_names(rules)
    found = []
    known = {("", ""): True}
    waiting = [("", "")]
    while waiting:
        asked = waiting.pop()
        kin = list(numbered_kin(one, other, asked))
        open_kin = [name for name in kin if isinstance(name, tuple)]
        taken = stems_that_name(open_kin, plain + [name for name in kin if isinstance(name, str)])
        wider = letters_that_fit(open_kin, rules)
        found.extend([filled(asked, within) for within in [*taken, least_stem(asked, taken, wider)]])
        begin, end = asked
        for left, right in wider:
            narrower = (begin + left, right + end)
            if narrower not in known:
                known[narrower] = True
                waiting.append(narrower)
    return list(ascending(found))


def plain_names(rules):
    """The list of the names that stand in some rules as sources, each once."""
    found = {source: True for rule in rules for source in rule[2] if isinstance(source, str)}
    return list(found)


def stems_that_name(kin, plain):
    """A dict of the stems with which one of some open names is one of some names."""
    stems = [stem_within(asked, name) for asked in kin for name in plain]
    return {within: True for within in stems if within is not None}


def letters_that_fit(kin, rules):
    """A dict of the letters, at both sides of a stem, for which a rule fits one of some open names.

    Those for which it fits whatever the stem are left out.
    """
    met = [meeting(rule, asked) for asked in kin for rule in rules]
    return {one[:2]: True for one in met if one is not None and one[:2] != ("", "")}


def least_stem(asked, taken, wider):
    """The least stem of an open name that is not taken and begins and ends with none of some letters."""
    within = "" if asked != ("", "") else next_word("")
    while within in taken or any([stem_within(letters, within) is not None for letters in wider]):
        within = next_word(within)
    return within


def next_word(word):
    """The first name behind a name, or behind the empty string, in the order of names."""
    kept = word.rstrip("z")
    if kept == "":
        return "A" * (len(word) + 1)
    raised = LETTERS[LETTERS.index(kept[-1]) + 1]
    first = "A" if raised in CAPITALS else "a"
    return kept[:-1] + raised + first * (len(word) - len(kept))


def numbered_kin(one, other, asked):
    """A dict of the kin of a name, or of an open one, in two books, with numbers as they are met.

    Raises TooMany if they are too many for sets of them.
    """
    numbers = {asked: 0}
    linked(one, asked, numbers)
    linked(other, asked, numbers)
    return numbers


def looks(one, other, name):
    """How two books look at a name, whatever its kin are called: the same for names of one class alone."""
    numbers = {name: 0}
    links = [linked(one, name, numbers), linked(other, name, numbers)]
    rules = one + other
    plain = plain_names(rules)
    fits = [[stem_within(rule[1], kin) is not None for rule in rules] for kin in numbers]
    return links, fits, [kin if kin in plain else "" for kin in numbers]


def linked(book, asked, numbers):
    """The list of (kin, rule, its sources) for the rules of chains that make sources kin, all by numbers.

    The kin that have no number yet are given the next ones.
    """
    links = []
    reached = {(asked, ()): True}
    waiting = [(asked, ())]
    while waiting:
        name, spent = waiting.pop()
        for number, sources in surely_fitted(book, name, spent):
            longer = with_one_more(spent, number)
            for source in sources:
                numbers.setdefault(source, len(numbers))
                need_few_kin(numbers)
                if (source, longer) not in reached:
                    reached[(source, longer)] = True
                    waiting.append((source, longer))
            links.append((numbers[name], number, [numbers[source] for source in sources]))
    return links


def surely_fitted(book, asked, spent):
    """The list of (number, sources) of the rules that are not spent and fit whatever an open name stands for."""
    found = []
    for number, rule in enumerate(book):
        met = None if number in spent else meeting(rule, asked)
        if met is not None and met[:2] == ("", ""):
            found.append((number, met[2]))
    return found


def need_few_kin(kin):
    """Raises TooMany if there are more kin than sets of them are gone through."""
    if len(kin) > MOST_KIN:
        raise TooMany(MOST_KIN)
