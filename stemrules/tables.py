"""What a book makes, told without chains: its open ways, its table, and what two tables tell."""

from stemrules.books import need_book, need_things
from stemrules.errors import TooMany
from stemrules.names import CAPITALS, ascending, filled, stem_within

MOST_WAYS = 300


def table(book):
    """The list of the rows of a book that lie under no other one, in order."""
    need_book(book)
    rows = {}
    for left, right, sources in open_ways(book, ("", ""), ()):
        row = (left, right, different(sources))
        rows[row_text(row)] = row
    found = [rows[text] for text in sorted(rows)]
    return [one for one in found if not lies_under(one, [other for other in found if other != one])]


def row_for(book, files, name):
    """The first row of the table by which a name can be made from files, None if there is none."""
    need_things(book, files, name)
    for row in table(book):
        begin, end, sources = row
        within = stem_within((begin, end), name)
        if within is not None and all([filled(source, within) in files for source in sources]):
            return row
    return None


def parting(one, other):
    """A name and files from which just one of two books makes it, None if they make alike."""
    need_book(one)
    need_book(other)
    first = table(one)
    second = table(other)
    for row in first:
        if not lies_under(row, second):
            return parted(row, second)
    for row in second:
        if not lies_under(row, first):
            return parted(row, first)
    return None


def lean(book):
    """The ascending tuple of the numbers of the lean rules of a book."""
    right = table(book)
    kept = list(range(len(book)))
    for number in reversed(range(len(book))):
        fewer = [other for other in kept if other != number]
        if table(tuple([book[other] for other in fewer])) == right:
            kept = fewer
    return tuple(kept)


def open_ways(book, asked, spent):
    """The list of the open ways of an open name or a name; raises TooMany if they are too many.

    If something asked for within a chain has too many, ("", "") has, too: each of them goes
    together with all else standing there. So they are refused as soon as this shows.
    """
    found = [("", "", (asked,))]
    for number, rule in enumerate(book):
        met = None if number in spent else meeting(rule, asked)
        if met is not None:
            left, right, sources = met
            for within_left, within_right, leaves in choices(book, sources, (*spent, number)):
                found.append((left + within_left, within_right + right, leaves))
            need_few(found)
    return found


def choices(book, asked, spent):
    """The list of the open ways of several open names and names at once, with the same stem."""
    found = [("", "", ())]
    for one in asked:
        found = joined(found, open_ways(book, one, spent))
    return found


def joined(ways, others):
    """The list of those that go together, of one of some open ways and one of others each."""
    found = []
    for one in ways:
        for other in others:
            both = together(one, other)
            if both is not None:
                found.append(both)
        need_few(found)
    return found


def need_few(ways):
    """Raises TooMany if there are more open ways than a book may have."""
    if len(ways) > MOST_WAYS:
        raise TooMany(MOST_WAYS)


def meeting(rule, asked):
    """What a rule asks for at both sides and its sources, to make an open name or a name; or None."""
    _, pattern, sources = rule
    if isinstance(asked, str):
        within = stem_within(pattern, asked)
        return None if within is None else ("", "", [filled(source, within) for source in sources])
    (target_begin, target_end), (begin, end) = pattern, asked
    if not (one_begins(target_begin, begin) and one_ends(target_end, end)):
        return None
    left_over = begin[len(target_begin):], ahead(end, target_end)
    return target_begin[len(begin):], ahead(target_end, end), [widened(source, left_over) for source in sources]


def together(one, other):
    """Two open ways with the same stem as one, None if they ask for letters that do not go together."""
    left, right, leaves = one
    other_left, other_right, other_leaves = other
    if not (one_begins(left, other_left) and one_ends(right, other_right)):
        return None
    more = other_left[len(left):], ahead(other_right, right)
    other_more = left[len(other_left):], ahead(right, other_right)
    sources = [widened(leaf, more) for leaf in leaves] + [widened(leaf, other_more) for leaf in other_leaves]
    return max(left, other_left, key=len), max(right, other_right, key=len), tuple(sources)


def one_begins(one, other):
    """Whether one of two strings begins with the other."""
    return one.startswith(other) or other.startswith(one)


def one_ends(one, other):
    """Whether one of two strings ends with the other."""
    return one.endswith(other) or other.endswith(one)


def ahead(one, other):
    """What stands, in a string, ahead of its last letters, as many as another one has."""
    return one[:max(0, len(one) - len(other))]


def widened(source, more):
    """An open name with more letters at both sides of the star; a name stays what it is."""
    if isinstance(source, str):
        return source
    begin, end = source
    left, right = more
    return begin + left, right + end


def different(sources):
    """The tuple of the different ones of open names and names, ascending by their texts."""
    found = {source_text(source): source for source in sources}
    return tuple([found[text] for text in sorted(found)])


def source_text(source):
    """The text of an open name or a name."""
    return source if isinstance(source, str) else "*".join(source)


def row_text(row):
    """The text of a row, by which rows are in order."""
    begin, end, sources = row
    return " ".join([source_text(source) for source in ((begin, end), *sources)])


def lies_under(row, rows):
    """Whether a row lies under one of some rows; each row lies under itself."""
    begin, end, sources = row
    for other_begin, other_end, other_sources in rows:
        if begin.startswith(other_begin) and end.endswith(other_end):
            more = begin[len(other_begin):], ahead(end, other_end)
            if all([widened(source, more) in sources for source in other_sources]):
                return True
    return False


def parted(row, rows):
    """A name and files by which a row makes it, but none of some rows under none of which it lies."""
    begin, end, sources = row
    # Six rules ask for at most 18 capitals, so one is free, and with a stem of it alone no row of
    # these fits that asks for more than the first one. And with a long stem no open name of one
    # row stands for a plain name of another.
    taken = "".join([other[0] for other in rows])
    free = [letter for letter in CAPITALS if letter not in taken]
    plain = [source for other in [row, *rows] for source in other[2] if isinstance(source, str)]
    within = free[0] * (1 + max([len(name) for name in plain], default=0))
    return begin + within + end, ascending([filled(source, within) for source in sources])
