"""Trees of grammars, their signs and their words."""

from tallysets.errors import NoTree
from tallysets.grammars import is_sign, signs_in
from tallysets.tallies import is_number


def is_pair(thing):
    return isinstance(thing, tuple) and len(thing) == 2


def rule_of(grammar, thing):
    """The rule at the top of the thing, if the thing looks like a tree there."""
    if not is_pair(thing) or not is_number(thing[0]) or not isinstance(thing[1], tuple):
        raise NoTree("there is no pair of a rule's number and branches")
    if thing[0] < 0 or thing[0] >= len(grammar[1]):
        raise NoTree("there is no rule of that number")
    rule = grammar[1][thing[0]]
    if len(thing[1]) != len(signs_in(rule[1])):
        raise NoTree("there are not as many branches as signs")
    return rule


def parts_of(right, branches):
    """The right text's letters, and for each sign a pair of it and its branch, in order."""
    parts = []
    used = 0
    for mark in right:
        if is_sign(mark):
            parts.append((mark, branches[used]))
            used = used + 1
        else:
            parts.append(mark)
    return parts


def sign_of(grammar, tree):
    # All of it is looked at, as a tree that is wrong further down is no tree.
    word_of(grammar, tree)
    return rule_of(grammar, tree)[0]


def word_of(grammar, tree):
    letters = []
    # A list of what is still to come, the next thing last: calls in one another could go too deep.
    waiting = [(rule_of(grammar, tree)[0], tree)]
    while len(waiting) > 0:
        part = waiting.pop()
        if isinstance(part, str):
            letters.append(part)
        else:
            rule = rule_of(grammar, part[1])
            if rule[0] != part[0]:
                raise NoTree("a branch is of another sign")
            waiting.extend(list(reversed(parts_of(rule[1], part[1][1]))))
    return "".join(letters)
