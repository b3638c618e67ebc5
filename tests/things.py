"""Things for the tests: odd objects, right ones with one part changed, plain second opinions."""

import re


def nested(many, wrap):
    thing = "A"
    for _ in range(many):
        thing = wrap(thing)
    return thing


# Of any form: what has the form of nothing that the package knows, and what nearly has one.
ODD = [
    None, True, False, 0, 1, 2, -1, 10 ** 12, -10 ** 12,
    "", " ", "\n", "\t", "~", "*", "aB", "AbC", "A b", " Ab", "Ab ", "Ab\n", "\nAb", "A\tb", "A1", "a_b", "A-b", "1",
    "@", "[", "`", "{", "A" * 5000, "a" * 5000, "A" * 2500 + "b" * 2500, "a" * 4999 + "A", " " * 5000,
    "A", "a", "Ab", "ABCDEF", "ABCDEFG", "ABCdefg",
    (), (None,), ("",), ("A",), ("a",), ("", ""), ("A", ""), ("", "a"), ("a", "A"), ("a", ""), ("", "A"),
    ("AB", "cd"), ("ABC", "def"), ("ABCD", ""), ("", "abcd"), ("A", "b", ""), ("A1", ""), ("A", "b "), ("A\n", ""),
    ("A", None), (None, "a"), (True, False), (0, 1), ("A", ("b",)), (("A",), "b"), ["A", "b"], ["A"], [],
    ("x", ("A", ""), ()), ["x", ("A", ""), ()], ("x", ["A", ""], ()), ("x", ("A", ""), []), (("x", ("A", ""), ()),),
    {}, {"A": "b"}, {0: ("x", ("A", ""), ())}, {("A", ""): True},
    nested(20, lambda thing: (thing,)), nested(20, lambda thing: [thing]), nested(20, lambda thing: {"A": thing}),
    nested(20, lambda thing: (thing, "b")), nested(20, lambda thing: ["A", thing, {}]),
    # A way may be a very deep tuple, and is passed as any object, too.
    nested(20000, lambda thing: ("A", "x", thing)),
    ("A", "x"), ("A", "x", ("A",)), ("A", "x", "A"), [("A", ())], [("A", ()), ("A", (0,))], [("A", [])], [("A",)],
    ("A",) * 100000, ["A"] * 99999, [[]] * 99999, (("x", ("A", ""), ()),) * 99999,
    {number: "A" for number in range(50000)},
]

BOOLS = [True, False]


def changed(thing):
    """Right things with one part exchanged, left out, put in, doubled, or made greater or less."""
    yield from ODD
    if isinstance(thing, str):
        yield from (thing[1:], thing[:-1], thing[::-1], thing.swapcase(), thing + "a", "A" + thing, thing + "A")
        yield from (thing + " ", " " + thing, thing + "\n", thing * 2, thing * 9, list(thing), tuple(thing))
    if isinstance(thing, int):
        yield from (thing + 1, thing - 1, -thing - 1, bool(thing), str(thing), (thing,), thing + 10 ** 12)
    if isinstance(thing, (tuple, list)):
        kind = type(thing)
        yield list(thing) if kind is tuple else tuple(thing)
        yield thing[::-1]
        yield thing + thing
        yield (thing,)
        yield [thing]
        yield dict(enumerate(thing))
        for at, part in enumerate(thing):
            yield thing[:at] + thing[at + 1:]
            yield thing[:at] + kind([part]) + thing[at:]
            for other in changed(part):
                yield thing[:at] + kind([other]) + thing[at + 1:]
        for at in range(len(thing) + 1):
            for other in (None, True, 0, "", "A", "a", (), ("A", ""), []):
                yield thing[:at] + kind([other]) + thing[at:]


def plain_name(thing):
    return type(thing) is str and thing != "" and re.fullmatch("[A-Z]*[a-z]*", thing) is not None


def plain_pattern(thing):
    if type(thing) is not tuple or [type(part) for part in thing] != [str, str]:
        return False
    return re.fullmatch("[A-Z]{0,3}[*][a-z]{0,3}", "*".join(thing)) is not None and thing != ("", "")


def plain_source(thing):
    return plain_name(thing) or plain_pattern(thing)


def plain_rule(thing):
    if type(thing) is not tuple or len(thing) != 3:
        return False
    label, pattern, sources = thing
    if type(label) is not str or re.fullmatch("[a-z]{1,8}", label) is None:
        return False
    if not plain_pattern(pattern) or type(sources) is not tuple or len(sources) not in (0, 1, 2, 3):
        return False
    return all(plain_pattern(source) or (plain_name(source) and len(source) < 7) for source in sources)


def plain_book(thing):
    return type(thing) is tuple and len(thing) < 7 and all(plain_rule(rule) for rule in thing)


def plain_files(thing):
    if type(thing) is not tuple or len(thing) > 60 or not all(plain_name(name) for name in thing):
        return False
    return all((len(one), one) < (len(other), other) for one, other in zip(thing, thing[1:]))


def plain_stem(pattern, name):
    head, tail = re.fullmatch("([A-Z]*)([a-z]*)", name).groups()
    begin, end = pattern
    if head[:len(begin)] != begin or tail[len(tail) - len(end):] != end or len(end) > len(tail):
        return None
    return head[len(begin):] + tail[:len(tail) - len(end)]


def plain_kin(book, name):
    """Kin as told in the document: by every chain, each by itself."""
    found = set()

    def follow(one, chain):
        found.add(one)
        for number, (_, pattern, sources) in enumerate(book):
            within = plain_stem(pattern, one)
            if number not in chain and within is not None:
                for source in sources:
                    follow(source if isinstance(source, str) else source[0] + within + source[1], chain + (number,))

    follow(name, ())
    return tuple(sorted(found, key=lambda one: (len(one), one)))


def random_book(chance, many):
    ends = [(begin, end) for begin in ("", "A", "AB", "B") for end in ("", "a", "ba", "b") if begin + end]
    plain = ["A", "a", "Aa", "ABba", "Bb"]
    rules = []
    for _ in range(many):
        sources = [chance.choice(ends + plain) for _ in range(chance.randrange(4))]
        rules.append(("x", chance.choice(ends), tuple(sources)))
    return tuple(rules)


def random_files(chance, names, most):
    """Some of the names, in order."""
    names = sorted(set(names), key=lambda name: (len(name), name))
    some = set(chance.sample(names, chance.randrange(min(len(names), most) + 1)))
    return tuple(name for name in names if name in some)
