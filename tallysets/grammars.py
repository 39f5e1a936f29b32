"""Grammars and their texts, and the tallies of words."""

from tallysets.errors import NoText

LETTERS = "abcd"
SIGNS = ("A", "B", "C")
MANIES = ("1", "2", "3", "4")
MOST_RULES = 8
MOST_PLACES = 4
MOST_SIGNS = 2


def is_sign(mark):
    # Not just the three that a text may have: rooms may be somewhat more, and have signs as well.
    return mark.isupper()


def signs_in(right):
    return [mark for mark in right if is_sign(mark)]


def tally_of(many, word):
    return tuple([word.count(letter) for letter in LETTERS[:many]])


def show_rule(rule):
    sign = rule[0]
    right = rule[1]
    return f"{sign}={right}"


def show_grammar(grammar):
    return ";".join([str(grammar[0])] + [show_rule(rule) for rule in grammar[1]])


def read_right(text, many):
    if len(text) > MOST_PLACES:
        raise NoText("a right text is too long")
    if not all([mark in SIGNS or mark in LETTERS[:many] for mark in text]):
        raise NoText("a right text has something else than signs and the grammar's letters")
    if len(signs_in(text)) > MOST_SIGNS:
        raise NoText("a right text has too many signs")
    return text


def read_rule(text, many):
    if len(text) < 2 or text[0] not in SIGNS or text[1] != "=":
        raise NoText("a rule does not begin with a sign and an equals")
    return (text[0], read_right(text[2:], many))


def read_grammar(text):
    parts = text.split(";")
    if parts[0] not in MANIES:
        raise NoText("there is no number of letters ahead")
    if len(parts) < 2 or len(parts) > MOST_RULES + 1:
        raise NoText("there are no rules, or too many")
    many = int(parts[0])
    return (many, tuple([read_rule(part, many) for part in parts[1:]]))
