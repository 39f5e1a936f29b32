"""Fans, pairs of a begin and steps, and sets, tuples of fans."""

from tallysets.errors import NoFan
from tallysets.tallies import is_tally


def is_tally_as_long(thing, long):
    return is_tally(thing) and len(thing) == long


def plain_fan(begin, steps):
    """The fan of tallies that need not be looked at: noughts left out, each once, rising."""
    moving = [step for step in steps if any(step)]
    return (begin, tuple(sorted(set(moving))))


def fan_of(begin, steps):
    if not is_tally(begin):
        raise NoFan("the begin is no tally")
    if not all([is_tally_as_long(step, len(begin)) for step in steps]):
        raise NoFan("a step is no tally with as many numbers as the begin")
    return plain_fan(begin, steps)


def are_steps(thing, long):
    if not isinstance(thing, tuple):
        return False
    # Only tallies may be compared below: other things might not be ordered.
    if not all([is_tally_as_long(step, long) and any(step) for step in thing]):
        return False
    return all([one < following for one, following in zip(thing, thing[1:])])


def is_fan(thing):
    if not isinstance(thing, tuple) or len(thing) != 2:
        return False
    return is_tally(thing[0]) and are_steps(thing[1], len(thing[0]))


def is_set(thing):
    if not isinstance(thing, tuple) or not all([is_fan(part) for part in thing]):
        return False
    return all([len(fan[0]) == len(thing[0][0]) for fan in thing])
