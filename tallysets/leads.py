"""Fans and sets led over into others."""

from tallysets.errors import TooGreat
from tallysets.marks import is_small
from tallysets.withins import counts_in, counts_of


def has_great(some):
    """Whether a begin or a step of the set is not small."""
    for fan in some:
        if not all([is_small(one) for one in (fan[0],) + fan[1]]):
            return True
    return False


def refuse_great(some):
    if has_great(some):
        raise TooGreat("a begin or a step is not small")


def paper_of(one, other):
    """The paper of two fans without great tallies, or None."""
    begin_counts = counts_of(other, one[0])
    if begin_counts is None:
        return None
    rows = []
    for step in one[1]:
        row = counts_in(other[1], step)
        if row is None:
            return None
        rows.append(row)
    return (begin_counts, tuple(rows))


def lead_of(fan, other):
    """The number of a fan of the other set, and the paper into it, or None."""
    for number, target in enumerate(other):
        paper = paper_of(fan, target)
        if paper is not None:
            return (number, paper)
    return None


def led_fan(one, other):
    refuse_great((one, other))
    return paper_of(one, other)


def led(one, other):
    refuse_great(one + other)
    pairs = []
    for fan in one:
        pair = lead_of(fan, other)
        if pair is None:
            return None
        pairs.append(pair)
    return tuple(pairs)
