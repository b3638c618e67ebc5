"""Names, patterns and sources: what they are, their stems and their order."""

from stemrules.errors import Mismatch, NoName

CAPITALS = "ABCDEFGHIJKLMNOPQRSTUVWXYZ"
SMALLS = "abcdefghijklmnopqrstuvwxyz"
LETTERS = "ABCDEFGHIJKLMNOPQRSTUVWXYZabcdefghijklmnopqrstuvwxyz"
MOST_END_LETTERS = 3


def is_name(thing):
    """Whether any object is a name: capital letters, then small ones, one at least."""
    return isinstance(thing, str) and thing != "" and thing.lstrip(CAPITALS).lstrip(SMALLS) == ""


def is_pattern(thing):
    """Whether any object is a pattern (begin, end)."""
    if not isinstance(thing, tuple) or len(thing) != 2:
        return False
    begin, end = thing
    return is_end(begin, CAPITALS) and is_end(end, SMALLS) and begin + end != ""


def is_end(thing, letters):
    """Whether any object is one end of a pattern, in these letters."""
    return isinstance(thing, str) and len(thing) <= MOST_END_LETTERS and thing.strip(letters) == ""


def is_source(thing):
    """Whether any object is a source: a pattern or a name."""
    return is_pattern(thing) or is_name(thing)


def parts(name):
    """The head and the tail of a name."""
    need_name(name)
    tail = name.lstrip(CAPITALS)
    return name[:len(name) - len(tail)], tail


def stem(pattern, name):
    """The stem of a name in a pattern, None if the pattern does not fit."""
    if not is_pattern(pattern):
        raise Mismatch("this is no pattern")
    need_name(name)
    return stem_within(pattern, name)


def put_in(source, stem):
    """The name that a source is with a stem."""
    if not is_source(source):
        raise Mismatch("this is no source")
    if stem != "" and not is_name(stem):
        raise Mismatch("this is no stem")
    return filled(source, stem)


def in_order(names):
    """The ascending tuple of the different names of a list."""
    need_names(names)
    return ascending(names)


def need_name(thing):
    """Raises NoName if any object is no name."""
    if not is_name(thing):
        raise NoName("this is no name")


def need_names(thing):
    """Raises Mismatch if any object is no list, NoName for the first thing in it that is no name."""
    if not isinstance(thing, list):
        raise Mismatch("this is no list of names")
    for name in thing:
        need_name(name)


def stem_within(pattern, name):
    """As stem, for what is known to be a pattern and a name."""
    begin, end = pattern
    # Capitals and small letters never mix, so the two ends can't overlap in the name.
    if name.startswith(begin) and name.endswith(end):
        return name[len(begin):len(name) - len(end)]
    return None


def filled(source, within):
    """As put_in, for what is known to be a source and a stem."""
    if isinstance(source, str):
        return source
    begin, end = source
    return begin + within + end


def ascending(names):
    """As in_order, for a list or tuple of what are known to be names."""
    return tuple(sorted(sorted(set(names)), key=len))
