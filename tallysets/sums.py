"""Sets joined, summed and repeated."""

from tallysets.errors import TooGreat
from tallysets.fans import plain_fan
from tallysets.tallies import added

MOST_REPEATED = 5


def joined(one, other):
    return one + other


def summed(one, other):
    fans = []
    for left in one:
        fans.extend([plain_fan(added(left[0], right[0]), left[1] + right[1]) for right in other])
    return tuple(fans)


def choices_of(some):
    """All choices of fans, that of none first, in the order that point 13 tells."""
    choices = [()]
    for fan in some:
        choices = choices + [choice + (fan,) for choice in choices]
    return choices


def repeated_fan(choice, long):
    """The fan in which each fan of the choice is taken once or more, and no other one."""
    begin = (0,) * long
    steps = []
    for fan in choice:
        begin = added(begin, fan[0])
        steps.extend((fan[0],) + fan[1])
    return plain_fan(begin, steps)


def repeated(some, long):
    if len(some) > MOST_REPEATED:
        raise TooGreat("the set has too many fans to be repeated")
    return tuple([repeated_fan(choice, long) for choice in choices_of(some)])
