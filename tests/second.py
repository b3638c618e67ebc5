"""Slow second opinions on ways, blocks, sets and tables: the document's words, one after the other."""

import itertools

from tests.things import plain_name, plain_stem


def plain_put(source, within):
    return source if isinstance(source, str) else source[0] + within + source[1]


def plain_fitting(book, name, spent):
    """(number, label, names of the sources) of the rules that fit and are not spent."""
    found = []
    for number, (label, pattern, sources) in enumerate(book):
        within = plain_stem(pattern, name)
        if within is not None and number not in spent:
            found.append((number, label, [plain_put(source, within) for source in sources]))
    return found


def plain_way(book, files, name, spent=()):
    if name in files:
        return (name,)
    rules = plain_fitting(book, name, spent)
    for number, label, sources in [rule for rule in rules if set(rule[2]) <= set(files)] + rules:
        ways = []
        for source in sources:
            way = plain_way(book, files, source, spent + (number,))
            if way is None:
                break
            ways.append(way)
        else:
            return (name, label) + tuple(ways)
    return None


def plain_made_by(book, files, name):
    there = set(files)
    made = []

    def make(way):
        if way[0] in there:
            return
        for inner in way[2:]:
            make(inner)
        if way[0] not in there:
            there.add(way[0])
            made.append(way[0])

    way = plain_way(book, files, name)
    if way is not None:
        make(way)
    return made


def plain_shows_way(book, files, name, thing, spent=()):
    if type(thing) is not tuple or not thing or type(thing[0]) is not str or thing[0] != name:
        return False
    if len(thing) == 1:
        return name in files
    for number, label, sources in plain_fitting(book, name, spent):
        if type(thing[1]) is str and thing[1] == label and len(sources) == len(thing) - 2:
            if all(plain_shows_way(book, files, *pair, spent + (number,)) for pair in zip(sources, thing[2:])):
                return True
    return False


def plain_shows_block(book, files, name, thing):
    if type(thing) is not list:
        return False
    rows = set()
    for row in thing:
        if type(row) is not tuple or len(row) != 2 or not plain_name(row[0]) or type(row[1]) is not tuple:
            return False
        if any(type(number) is not int or number not in range(len(book)) for number in row[1]):
            return False
        if row in rows or list(row[1]) != sorted(set(row[1])) or row[0] in files:
            return False
        rows.add(row)
    for one, spent in rows:
        for number, _, sources in plain_fitting(book, one, spent):
            if not any((source, tuple(sorted(spent + (number,)))) in rows for source in sources):
                return False
    return (name, ()) in rows


def subsets(names):
    """All tuples of some of the names, in the order of sets of files."""
    for many in range(len(names) + 1):
        yield from itertools.combinations(names, many)


def plain_least(sets):
    """The least ones of some sets that come in order."""
    found = []
    for one in sets:
        if not any(set(other) <= set(one) for other in found):
            found.append(one)
    return found


def plain_least_sets(book, name, kin):
    return plain_least(files for files in subsets(kin) if plain_way(book, files, name) is not None)


def plain_shows_barrier(book, files, name, kin, thing):
    if type(thing) is not tuple or not all(type(one) is str and one in kin and one not in files for one in thing):
        return False
    if list(thing) != [one for one in kin if one in thing]:
        return False
    return plain_way(book, tuple(one for one in kin if one not in thing), name) is None


def plain_barriers(book, name, kin):
    return plain_least(names for names in subsets(kin) if plain_shows_barrier(book, (), name, kin, names))


def plain_open_ways(book, asked, spent=()):
    """The open ways: each choice by itself. They may be very many."""
    yield "", "", [asked]
    for number, (_, pattern, sources) in enumerate(book):
        if number in spent:
            continue
        if isinstance(asked, str):
            within = plain_stem(pattern, asked)
            if within is None:
                continue
            left, right = "", ""
            sources = [plain_put(source, within) for source in sources]
        else:
            left, more_left = plain_over(pattern[0], asked[0])
            right, more_right = plain_over(pattern[1][::-1], asked[1][::-1])
            if left is None or right is None:
                continue
            right, more_right = right[::-1], more_right[::-1]
            sources = [plain_wider(source, more_left, more_right) for source in sources]
        for choice in plain_choices(book, sources, spent + (number,)):
            longest_left = max([""] + [way[0] for way in choice], key=len)
            longest_right = max([""] + [way[1] for way in choice], key=len)
            if all(longest_left[:len(way[0])] == way[0] and longest_right.endswith(way[1]) for way in choice):
                leaves = []
                for one_left, one_right, one_leaves in choice:
                    more = longest_left[len(one_left):], longest_right[:len(longest_right) - len(one_right)]
                    leaves += [plain_wider(leaf, *more) for leaf in one_leaves]
                yield left + longest_left, longest_right + right, leaves


def plain_choices(book, sources, spent):
    # Lazy, as there may be far too many to be kept; product would keep them.
    if not sources:
        yield []
        return
    for way in plain_open_ways(book, sources[0], spent):
        for others in plain_choices(book, sources[1:], spent):
            yield [way] + others


def plain_over(one, other):
    """What two strings have more, each than the other one, if one begins the other."""
    many = min(len(one), len(other))
    return (one[many:], other[many:]) if one[:many] == other[:many] else (None, None)


def plain_wider(source, left, right):
    return source if isinstance(source, str) else (source[0] + left, right + source[1])


def plain_count(book, most):
    """How many open ways ("", "") has, none counted behind the most."""
    return len(list(itertools.islice(plain_open_ways(book, ("", "")), most)))


def plain_text(source):
    return source if isinstance(source, str) else source[0] + "*" + source[1]


def plain_table(book):
    rows = []
    for begin, end, leaves in plain_open_ways(book, ("", "")):
        row = (begin, end, tuple(sorted(set(leaves), key=plain_text)))
        if row not in rows:
            rows.append(row)
    rows = [row for row in rows if not any(row != other and plain_under(row, other) for other in rows)]
    return sorted(rows, key=lambda row: (plain_text(row[:2]), [plain_text(source) for source in row[2]]))


def plain_under(row, other):
    if not row[0].startswith(other[0]) or not row[1].endswith(other[1]):
        return False
    left, right = row[0][len(other[0]):], row[1][:len(row[1]) - len(other[1])]
    return {plain_wider(source, left, right) for source in other[2]} <= set(row[2])


def plain_lean(book):
    left = dict(enumerate(book))
    for number in range(len(book) - 1, -1, -1):
        fewer = {other: rule for other, rule in left.items() if other != number}
        if plain_table(tuple(fewer.values())) == plain_table(book):
            left = fewer
    return tuple(left)
