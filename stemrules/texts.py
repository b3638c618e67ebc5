"""Texts of rules and books: read, with the place of the first thing that is wrong, and written."""

from stemrules.books import MOST_RULES, MOST_SOURCES, is_label, is_rule_source
from stemrules.errors import SyntaxProblem, TooMany
from stemrules.names import CAPITALS, LETTERS, SMALLS, is_end
from stemrules.tables import source_text

BLANKS = " \t"
SIGNS = ":*<"


class Row:
    """The tokens of a row, which are read one after the other."""

    def __init__(self, text, line):
        self.line = line
        self.tokens = tokens_of(text, line)
        self.at = 0
        self.end = len(text)

    def at_end(self):
        """Whether all tokens are read."""
        return self.at == len(self.tokens)

    def next_word(self):
        """The token that is to be read next, the empty string behind the last one."""
        return "" if self.at_end() else self.tokens[self.at][1]

    def is_joined(self):
        """Whether there is a next token, without a blank between it and the last one that was read."""
        if self.at_end():
            return False
        place, word = self.tokens[self.at - 1]
        return self.tokens[self.at][0] == place + len(word)

    def need(self, right):
        """Raises SyntaxProblem at the next token if this is not right."""
        if not right:
            place = self.end if self.at_end() else self.tokens[self.at][0]
            raise SyntaxProblem(self.line, place + 1)

    def taken(self, right):
        """The next token, which is read if it is right and refused if it is not."""
        self.need(right)
        word = self.next_word()
        self.at += 1
        return word


def parse_rule(text):
    """The rule that a text of one row tells."""
    return read_rule(Row(text, 1))


def parse_book(text):
    """The book that a text tells."""
    rules = []
    for number, part in enumerate(text.split("\n")):
        row = Row(part, number + 1)
        if not row.at_end():
            rules.append(read_rule(row))
    if len(rules) > MOST_RULES:
        raise TooMany(MOST_RULES)
    return tuple(rules)


def format_rule(rule):
    """The canonical text of a rule, without a newline."""
    label, pattern, sources = rule
    return " ".join([label, ":", source_text(pattern), "<"] + [source_text(source) for source in sources])


def format_book(book):
    """The canonical text of a book."""
    return "".join([format_rule(rule) + "\n" for rule in book])


def tokens_of(text, line):
    """The list of the tokens of a row, as (place, word), the places counted from 0."""
    found = []
    at = 0
    while at < len(text):
        word = text[at] if text[at] in SIGNS else letters_at(text, at)
        if word == "" and text[at] not in BLANKS:
            raise SyntaxProblem(line, at + 1)
        if word != "":
            found.append((at, word))
        at += max(1, len(word))
    return found


def letters_at(text, at):
    """The letters that stand in a row from a place on, perhaps none."""
    end = at
    while end < len(text) and text[end] in LETTERS:
        end += 1
    return text[at:end]


def read_rule(row):
    """The rule that the tokens of a row tell."""
    label = row.taken(is_label(row.next_word()))
    row.taken(row.next_word() == ":")
    begin = ""
    if row.next_word() != "*":
        begin = row.taken(is_begin(row.next_word()))
    pattern = read_pattern(row, begin)
    row.taken(row.next_word() == "<")
    return label, pattern, read_sources(row)


def read_sources(row):
    """The tuple of the sources that the tokens of a row tell from here to its end."""
    found = []
    while not row.at_end():
        row.need(len(found) < MOST_SOURCES and (found == [] or not row.is_joined()))
        found.append(read_source(row))
    return tuple(found)


def read_source(row):
    """The source that the next tokens of a row tell."""
    if row.next_word() == "*":
        return read_pattern(row, "")
    word = row.taken(is_rule_source(row.next_word()))
    if not row.is_joined():
        return word
    # Without a blank only the star of a pattern may stand behind it.
    row.need(is_begin(word))
    return read_pattern(row, word)


def read_pattern(row, begin):
    """The pattern that the next tokens of a row tell, its beginning being read."""
    row.taken(row.next_word() == "*" and (begin == "" or row.is_joined()))
    if row.is_joined() and row.next_word()[0] in LETTERS:
        return begin, row.taken(is_end(row.next_word(), SMALLS))
    row.need(begin != "")
    return begin, ""


def is_begin(word):
    """Whether a token may stand ahead of the star of a pattern."""
    return word != "" and is_end(word, CAPITALS)
