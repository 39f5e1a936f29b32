"""Sets made few, and what is missing of one set in another."""

from tallysets.leads import paper_of, refuse_great
from tallysets.withins import counts_in, table_of


def is_sum_of_others(steps, number):
    return counts_in(steps[:number] + steps[number + 1:], steps[number]) is not None


def few_steps(steps):
    return tuple([step for number, step in enumerate(steps) if not is_sum_of_others(steps, number)])


def with_few_steps(some):
    # Many fans of a set often have the same steps, which are then gone through once.
    known = {}
    fans = []
    for fan in some:
        if fan[1] not in known:
            known[fan[1]] = few_steps(fan[1])
        fans.append((fan[0], known[fan[1]]))
    return fans


def is_led(one, other):
    return paper_of(one, other) is not None


def is_spared(fans, number):
    """Whether another fan has all that the fan of the number has, and is to stay rather than it."""
    fan = fans[number]
    for place, other in enumerate(fans):
        if place != number and is_led(fan, other):
            if place < number or not is_led(other, fan):
                return True
    return False


def few(some):
    refuse_great(some)
    fans = with_few_steps(some)
    return tuple([fan for number, fan in enumerate(fans) if not is_spared(fans, number)])


def missing(one, other, most):
    lost = sorted(set(table_of(one, most)) - set(table_of(other, most)))
    return lost[0] if len(lost) > 0 else None
