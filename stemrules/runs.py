"""Runs of a book with many wishes: what they make and miss, and which files stand there behind them."""

from stemrules.books import need_book, need_files
from stemrules.names import ascending, need_names
from stemrules.ways import Search, make


def run(book, files, wishes):
    """What a run makes, in order, which wishes it misses, in order, and the middle names."""
    made, missed, _ = gone_through(book, files, wishes)
    return made, missed, middle_names(made, wishes)


def files_after(book, files, wishes, swept):
    """The ascending tuple of the files behind a run, without the middle names if these are swept."""
    made, _, there = gone_through(book, files, wishes)
    away = {name: True for name in middle_names(made, wishes)} if swept else {}
    return ascending([name for name in there if name not in away])


def settled(book, files, wishes):
    """What a settled run makes, as (wish, way) in order, which wishes do not stand there then, and the files."""
    need_run(book, files, wishes)
    search = Search(book, files)
    made = []
    many = None
    while many != len(made):
        many = len(made)
        for wish in wishes:
            told = None if wish in search.there else search.told(wish, ())
            if told is not None:
                search.there[wish] = True
                search.forget()
                made.append((wish, told))
    return made, ascending([wish for wish in wishes if wish not in search.there]), ascending(list(search.there))


def gone_through(book, files, wishes):
    """What a run makes, which wishes it misses, both in order, and a dict of the files behind it."""
    need_run(book, files, wishes)
    search = Search(book, files)
    made = []
    missed = []
    for wish in wishes:
        told = search.told(wish, ())
        if told is None:
            missed.append(wish)
        elif wish not in search.there:
            make(told, search.there, made)
            search.forget()
    return made, missed, search.there


def middle_names(made, wishes):
    """The ascending tuple of the names that were made and are no wishes."""
    wished = {wish: True for wish in wishes}
    return ascending([name for name in made if name not in wished])


def need_run(book, files, wishes):
    """Raises NoBook, NoFiles, or what is raised for a list of names, for the first one of these that is none."""
    need_book(book)
    need_files(files)
    need_names(wishes)
