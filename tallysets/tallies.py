"""Tallies: tuples of one to four numbers, none below 0."""

from tallysets.errors import NoTally

MOST_NUMBERS = 4


def is_number(thing):
    # To Python a truth is an int, too; to the document it is no number.
    return isinstance(thing, int) and not isinstance(thing, bool)


def is_tally(thing):
    if not isinstance(thing, tuple):
        return False
    if len(thing) < 1 or len(thing) > MOST_NUMBERS:
        return False
    return all([is_number(part) and part >= 0 for part in thing])


def added(one, other):
    return tuple([left + right for left, right in zip(one, other)])


def times(count, one):
    return tuple([count * part for part in one])


def at_most(one, other):
    return all([left <= right for left, right in zip(one, other)])


def less(one, other):
    if not at_most(other, one):
        raise NoTally("what is to be taken away is not at most the tally")
    return tuple([left - right for left, right in zip(one, other)])


def taken(begin, counts, steps):
    """The tally to which the begin and the steps, each taken as often as its count tells, come."""
    reached = begin
    for count, step in zip(counts, steps):
        reached = added(reached, times(count, step))
    return reached


def weight(weights, one):
    return sum([factor * part for factor, part in zip(weights, one)])
