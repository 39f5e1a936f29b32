"""What is within fans and sets."""

from tallysets.errors import TooGreat
from tallysets.marks import is_small, lasts_of, marks_of, strides_of
from tallysets.tallies import added, at_most, less, weight


def counts_in(steps, total):
    """How often each step is taken to come to the total, or None."""
    lasts = lasts_of(steps, total)
    place = len(lasts) - 1
    if lasts[place] is None:
        return None
    jumps = [weight(strides_of(total), step) for step in steps]
    counts = [0] * len(steps)
    while place > 0:
        number = lasts[place]
        counts[number] = counts[number] + 1
        place = place - jumps[number]
    return tuple(counts)


def refuses(fan, one):
    return at_most(fan[0], one) and not is_small(less(one, fan[0]))


def counts_of(fan, one):
    if refuses(fan, one):
        raise TooGreat("the tally less the begin is not small")
    if not at_most(fan[0], one):
        return None
    return counts_in(fan[1], less(one, fan[0]))


def within(some, one):
    # All fans are asked first, as a refusal goes ahead of what an earlier fan would tell.
    if any([refuses(fan, one) for fan in some]):
        raise TooGreat("the tally less a begin is not small")
    for number, fan in enumerate(some):
        counts = counts_of(fan, one)
        if counts is not None:
            return (number, counts)
    return None


def fan_table(fan, most):
    if not at_most(fan[0], most):
        return []
    return [added(fan[0], mark) for mark in marks_of(fan[1], less(most, fan[0]))]


def table_of(some, most):
    if not is_small(most):
        raise TooGreat("the tally is not small")
    table = []
    for fan in some:
        table.extend(fan_table(fan, most))
    return tuple(sorted(set(table)))
