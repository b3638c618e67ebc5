"""Slow second opinions on the functions of the stages 3 to 11: the document's words, one after the other."""

import itertools
import re

from tests.things import plain_kin, plain_name, plain_stem


def plain_put(source, within):
    return source if isinstance(source, str) else source[0] + within + source[1]


def plain_fitting(book, name, spent):
    """(number, label, names of the sources) of the rules that fit and are not spent."""
    found = []
    for number, (label, pattern, sources) in enumerate(book):
        within = plain_stem(pattern, name)
        if within is not None and number not in spent:
            found.append((number, label, [plain_put(source, within) for source in sources]))
    return found


def plain_way(book, files, name, spent=()):
    if name in files:
        return (name,)
    rules = plain_fitting(book, name, spent)
    for number, label, sources in [rule for rule in rules if set(rule[2]) <= set(files)] + rules:
        ways = []
        for source in sources:
            way = plain_way(book, files, source, spent + (number,))
            if way is None:
                break
            ways.append(way)
        else:
            return (name, label) + tuple(ways)
    return None


def plain_made_by(book, files, name):
    return plain_run(book, files, [name])[0]


def plain_shows_way(book, files, name, thing, spent=()):
    if type(thing) is not tuple or not thing or type(thing[0]) is not str or thing[0] != name:
        return False
    if len(thing) == 1:
        return name in files
    for number, label, sources in plain_fitting(book, name, spent):
        if type(thing[1]) is str and thing[1] == label and len(sources) == len(thing) - 2:
            if all(plain_shows_way(book, files, *pair, spent + (number,)) for pair in zip(sources, thing[2:])):
                return True
    return False


def plain_shows_block(book, files, name, thing):
    if type(thing) is not list:
        return False
    rows = set()
    for row in thing:
        if type(row) is not tuple or len(row) != 2 or not plain_name(row[0]) or type(row[1]) is not tuple:
            return False
        if any(type(number) is not int or number not in range(len(book)) for number in row[1]):
            return False
        if row in rows or list(row[1]) != sorted(set(row[1])) or row[0] in files:
            return False
        rows.add(row)
    for one, spent in rows:
        for number, _, sources in plain_fitting(book, one, spent):
            if not any((source, tuple(sorted(spent + (number,)))) in rows for source in sources):
                return False
    return (name, ()) in rows


def subsets(names):
    """All tuples of some of the names, in the order of sets of files."""
    for many in range(len(names) + 1):
        yield from itertools.combinations(names, many)


def plain_least(sets):
    """The least ones of some sets that come in order."""
    found = []
    for one in sets:
        if not any(set(other) <= set(one) for other in found):
            found.append(one)
    return found


def plain_least_sets(book, name, kin):
    return plain_least(files for files in subsets(kin) if plain_way(book, files, name) is not None)


def plain_shows_barrier(book, files, name, kin, thing):
    if type(thing) is not tuple or not all(type(one) is str and one in kin and one not in files for one in thing):
        return False
    if list(thing) != [one for one in kin if one in thing]:
        return False
    return plain_way(book, tuple(one for one in kin if one not in thing), name) is None


def plain_barriers(book, name, kin):
    return plain_least(names for names in subsets(kin) if plain_shows_barrier(book, (), name, kin, names))


def plain_open_ways(book, asked, spent=()):
    """The open ways: each choice by itself. They may be very many."""
    yield "", "", [asked]
    for number, (_, pattern, sources) in enumerate(book):
        if number in spent:
            continue
        if isinstance(asked, str):
            within = plain_stem(pattern, asked)
            if within is None:
                continue
            left, right = "", ""
            sources = [plain_put(source, within) for source in sources]
        else:
            left, more_left = plain_over(pattern[0], asked[0])
            right, more_right = plain_over(pattern[1][::-1], asked[1][::-1])
            if left is None or right is None:
                continue
            right, more_right = right[::-1], more_right[::-1]
            sources = [plain_wider(source, more_left, more_right) for source in sources]
        for choice in plain_choices(book, sources, spent + (number,)):
            longest_left = max([""] + [way[0] for way in choice], key=len)
            longest_right = max([""] + [way[1] for way in choice], key=len)
            if all(longest_left[:len(way[0])] == way[0] and longest_right.endswith(way[1]) for way in choice):
                leaves = []
                for one_left, one_right, one_leaves in choice:
                    more = longest_left[len(one_left):], longest_right[:len(longest_right) - len(one_right)]
                    leaves += [plain_wider(leaf, *more) for leaf in one_leaves]
                yield left + longest_left, longest_right + right, leaves


def plain_choices(book, sources, spent):
    # Lazy, as there may be far too many to be kept; product would keep them.
    if not sources:
        yield []
        return
    for way in plain_open_ways(book, sources[0], spent):
        for others in plain_choices(book, sources[1:], spent):
            yield [way] + others


def plain_over(one, other):
    """What two strings have more, each than the other one, if one begins the other."""
    many = min(len(one), len(other))
    return (one[many:], other[many:]) if one[:many] == other[:many] else (None, None)


def plain_wider(source, left, right):
    return source if isinstance(source, str) else (source[0] + left, right + source[1])


def plain_count(book, most):
    """How many open ways ("", "") has, none counted behind the most."""
    return len(list(itertools.islice(plain_open_ways(book, ("", "")), most)))


def plain_text(source):
    return source if isinstance(source, str) else source[0] + "*" + source[1]


def plain_table(book):
    rows = []
    for begin, end, leaves in plain_open_ways(book, ("", "")):
        row = (begin, end, tuple(sorted(set(leaves), key=plain_text)))
        if row not in rows:
            rows.append(row)
    rows = [row for row in rows if not any(row != other and plain_under(row, other) for other in rows)]
    return sorted(rows, key=lambda row: (plain_text(row[:2]), [plain_text(source) for source in row[2]]))


def plain_under(row, other):
    if not row[0].startswith(other[0]) or not row[1].endswith(other[1]):
        return False
    left, right = row[0][len(other[0]):], row[1][:len(row[1]) - len(other[1])]
    return {plain_wider(source, left, right) for source in other[2]} <= set(row[2])


def plain_lean(book):
    left = dict(enumerate(book))
    for number in range(len(book) - 1, -1, -1):
        fewer = {other: rule for other, rule in left.items() if other != number}
        if plain_table(tuple(fewer.values())) == plain_table(book):
            left = fewer
    return tuple(left)


def ordered(names):
    """Different names in the order of names."""
    return tuple(sorted(set(names), key=lambda name: (len(name), name)))


def plain_two_kin(one, other, name):
    return ordered(plain_kin(one, name) + plain_kin(other, name))


def small_names(most, capitals="ABC", smalls="abc"):
    """All names of at most so many of these letters, in order."""
    found = []
    for many in range(1, most + 1):
        for head in range(many + 1):
            for letters in itertools.product(*[capitals] * head, *[smalls] * (many - head)):
                found.append("".join(letters))
    return ordered(found)


def plain_same_class(one, other, name, more):
    """Whether the chains of two names, one after the other, exchange their kin as the document asks."""
    pairs = set()

    def follow(book, first, second, chain):
        pairs.add((first, second))
        for number, (_, pattern, sources) in enumerate(book):
            within = plain_stem(pattern, first), plain_stem(pattern, second)
            if (within[0] is None) != (within[1] is None):
                return False
            if number not in chain and within[0] is not None:
                for source in sources:
                    if not follow(book, *[plain_put(source, stem) for stem in within], chain + (number,)):
                        return False
        return True

    if not follow(one, name, more, ()) or not follow(other, name, more, ()):
        return False
    if len(pairs) != len(set(pair[0] for pair in pairs)) or len(pairs) != len(set(pair[1] for pair in pairs)):
        return False
    plain = [source for rule in one + other for source in rule[2] if isinstance(source, str)]
    for first, second in pairs:
        if first != second and (first in plain or second in plain):
            return False
        for _, pattern, _ in one + other:
            if (plain_stem(pattern, first) is None) != (plain_stem(pattern, second) is None):
                return False
    return True


def plain_class_names(one, other, names):
    """Those of all small names, in order, that are alike to none ahead of them."""
    found = {}
    for name in names:
        fits = tuple(plain_stem(rule[1], name) is None for rule in one + other), len(plain_two_kin(one, other, name))
        ahead = found.setdefault(fits, [])
        if not any(plain_same_class(one, other, first, name) for first in ahead):
            ahead.append(name)
    return list(ordered([name for ahead in found.values() for name in ahead]))


def plain_parted(one, other, names, differ):
    """The first one of some names in order, and the first files among its kin, for which something differs."""
    for name in names:
        for files in subsets(plain_two_kin(one, other, name)):
            if differ(files, name):
                return name, files
    return None


def plain_apart(one, other, names):
    return plain_parted(one, other, names, lambda files, name: plain_way(one, files, name) != plain_way(other, files, name))


def plain_makes_apart(one, other, names):
    return plain_parted(one, other, names, lambda files, name: (plain_way(one, files, name) is None)
                        != (plain_way(other, files, name) is None))


def plain_used(book, files, name):
    """The numbers of the rules that give the told way and the ways within it."""
    found = set()

    def gather(way):
        if len(way) > 1:
            found.add(int(way[1]))
            for inner in way[2:]:
                gather(inner)

    # With numbers for labels the way tells which rules gave it.
    gather(plain_way(tuple((str(number), *rule[1:]) for number, rule in enumerate(book)), files, name) or (name,))
    return found


def plain_first_use(book, number, names):
    return plain_parted(book, (), names, lambda files, name: number in plain_used(book, files, name))


def plain_run(book, files, wishes):
    """(made, missed, middle, files behind)"""
    there = list(files)
    made = []
    missed = []

    def make(way):
        if way[0] in there:
            return
        for inner in way[2:]:
            make(inner)
        if way[0] not in there:
            there.append(way[0])
            made.append(way[0])

    for wish in wishes:
        way = plain_way(book, there, wish)
        if way is None:
            missed.append(wish)
        else:
            make(way)
    return made, missed, ordered(name for name in made if name not in wishes), ordered(there)


def plain_settled(book, files, wishes):
    there = list(files)
    made = []
    while True:
        before = len(made)
        for wish in wishes:
            way = plain_way(book, there, wish)
            if wish not in there and way is not None:
                there.append(wish)
                made.append((wish, way))
        if len(made) == before:
            return made, ordered(wish for wish in wishes if wish not in there), ordered(there)


PATTERN = "(?:[A-Z]{1,3}[*][a-z]{0,3}|[*][a-z]{1,3})"
SOURCE = "(?:" + PATTERN + "|(?=[A-Za-z]{1,6}(?![A-Za-z]))[A-Z]*[a-z]*)"
SOURCES = "(?:" + SOURCE + "(?:[ \t]+" + SOURCE + "){0,2})?"
RULE = re.compile("[ \t]*[a-z]{1,8}[ \t]*:[ \t]*" + PATTERN + "[ \t]*<[ \t]*" + SOURCES + "[ \t]*")
ENDINGS = ("", ":*a<", "*a<", "*<", "a<", "<", "a", "*a")


def goes_on(text):
    """Whether a row that is a rule begins with a text that ends behind a whole token."""
    endings = [ending for ending in ENDINGS if not (text[-1:].isalpha() and ending[:1].isalpha())]
    return any(RULE.fullmatch(text + ending) for ending in endings)


def plain_problem(row):
    """The column of what is wrong in a row that is to be a rule, None if it is one."""
    for at, sign in enumerate(row):
        if re.fullmatch("[A-Za-z:*< \t]", sign) is None:
            return at + 1
    for token in re.finditer("[A-Za-z]+|[:*<]", row):
        if not goes_on(row[:token.end()]):
            return token.start() + 1
    return None if RULE.fullmatch(row) else len(row) + 1


def plain_book_problem(text):
    """(line, column) of what is wrong in the text of a book, None if nothing is."""
    for at, row in enumerate(text.split("\n")):
        if row.strip(" \t") != "" and plain_problem(row) is not None:
            return at + 1, plain_problem(row)
    return None


def plain_read(row):
    """The rule that a right row tells."""
    label, _, behind = row.partition(":")
    pattern, _, sources = behind.partition("<")
    ends = [source.strip(" \t") for source in [pattern] + re.split("[ \t]+", sources) if source.strip(" \t")]
    told = [tuple(source.split("*")) if "*" in source else source for source in ends]
    return label.strip(" \t"), told[0], tuple(told[1:])
