"""The box of a small tally, and the sums of steps in it."""

from tallysets.errors import TooGreat
from tallysets.tallies import at_most, less, weight

MOST_IN_A_SMALL_BOX = 3000
NO_STEP = -1


def box_size(most):
    size = 1
    for part in most:
        size = size * (part + 1)
    return size


def is_small(one):
    return box_size(one) <= MOST_IN_A_SMALL_BOX


def box_of(most):
    box = [()]
    for part in most:
        longer = []
        for one in box:
            longer.extend([one + (count,) for count in range(part + 1)])
        box = longer
    return box


def strides_of(most):
    """Weights by which each tally of the box weighs its place there, in order and from 0."""
    return tuple([box_size(most[place + 1:]) for place in range(len(most))])


def places_of(most, strides):
    places = [0]
    for part, stride in zip(most, strides):
        further = []
        for place in places:
            further.extend([place + count * stride for count in range(part + 1)])
        places = further
    return places


def lasts_of(steps, most):
    """For each place of the box the number of a step that comes there last, None where none can.

    The place of noughts has NO_STEP.
    """
    strides = strides_of(most)
    lasts = [None] * box_size(most)
    lasts[0] = NO_STEP
    for number, step in enumerate(steps):
        if any(step) and at_most(step, most):
            jump = weight(strides, step)
            # In order, so that a place the step has come to is gone on from by it again.
            for place in places_of(less(most, step), strides):
                if lasts[place] is not None and lasts[place + jump] is None:
                    lasts[place + jump] = number
    return lasts


def marks_of(steps, most):
    if not is_small(most):
        raise TooGreat("the tally is not small")
    lasts = lasts_of(steps, most)
    return tuple([one for one, last in zip(box_of(most), lasts) if last is not None])
