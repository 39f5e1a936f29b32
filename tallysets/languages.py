"""The set of a grammar, and trees for tallies."""

from tallysets.errors import TooGreat
from tallysets.fews import few
from tallysets.grammars import signs_in, tally_of
from tallysets.leads import has_great
from tallysets.marks import box_of
from tallysets.tallies import at_most, less
from tallysets.uses import TOP_SIGN, fans_of

MOST_LETTERS = 12


def set_of(grammar):
    fans = sorted(set(fans_of(grammar)))
    great = [fan for fan in fans if has_great((fan,))]
    others = [fan for fan in fans if not has_great((fan,))]
    # Fans with great tallies would be refused there, so they stay as they are.
    return few(tuple(others)) + tuple(great)


def first_parts(signs, total):
    """What the first of the branches can have, if all of them are to come to the total."""
    if len(signs) == 1:
        return [total]
    return box_of(total)


def branches_for(trees, signs, total):
    """Trees at hand of the signs, in order, whose tallies come to the total, or None."""
    if len(signs) == 0:
        return None if any(total) else ()
    for part in first_parts(signs, total):
        if (signs[0], part) in trees:
            others = branches_for(trees, signs[1:], less(total, part))
            if others is not None:
                return (trees[(signs[0], part)],) + others
    return None


def tree_by_rule(trees, grammar, number, one):
    """A tree with that rule at its top, the tally and branches at hand, or None."""
    right = grammar[1][number][1]
    letters = tally_of(grammar[0], right)
    if not at_most(letters, one):
        return None
    branches = branches_for(trees, signs_in(right), less(one, letters))
    return None if branches is None else (number, branches)


def plant(trees, grammar, one):
    """Adds to the trees at hand, for each sign that has trees of the tally, one of these.

    Those of all lesser tallies are at hand already. As a tree is made of such as were there before
    it, no sign stands twice with the same tally on a way down, which keeps trees low and small.
    """
    grows = True
    while grows:
        grows = False
        for number, rule in enumerate(grammar[1]):
            if (rule[0], one) not in trees:
                tree = tree_by_rule(trees, grammar, number, one)
                if tree is not None:
                    trees[(rule[0], one)] = tree
                    grows = True


def tree_for(grammar, one):
    if sum(one) > MOST_LETTERS:
        raise TooGreat("the tally has too many letters")
    trees = {}
    for part in box_of(one):
        plant(trees, grammar, part)
    return trees.get((TOP_SIGN, one))
