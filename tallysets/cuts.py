"""Sets cut by rests and by equations."""

from tallysets.balances import leasts_of, loops_of
from tallysets.errors import TooGreat
from tallysets.fans import plain_fan
from tallysets.marks import box_of
from tallysets.tallies import taken, times, weight

MOST_ROUNDS = 300
MOST_STEPS = 5
MOST_WEIGHT = 8
MOST_LACKING = 30


def round_of(heft, by):
    turns = 1
    while turns * heft % by != 0:
        turns = turns + 1
    return turns


def rounds_of(fan, weights, by):
    return [round_of(weight(weights, step), by) for step in fan[1]]


def has_many_rounds(fan, weights, by):
    product = 1
    for turns in rounds_of(fan, weights, by):
        product = product * turns
    return product > MOST_ROUNDS


def fan_by_rest(fan, weights, by, rest):
    rounds = rounds_of(fan, weights, by)
    steps = [times(turns, step) for turns, step in zip(rounds, fan[1])]
    # The rows below the rounds are those of a box, which comes in the order that is asked for.
    rows = box_of([turns - 1 for turns in rounds])
    begins = [taken(fan[0], row, fan[1]) for row in rows]
    return [plain_fan(begin, steps) for begin in begins if weight(weights, begin) % by == rest]


def cut_by_rest(some, weights, by, rest):
    if any([has_many_rounds(fan, weights, by) for fan in some]):
        raise TooGreat("the steps of a fan have too many rounds")
    fans = []
    for fan in some:
        fans.extend(fan_by_rest(fan, weights, by, rest))
    return tuple(fans)


def lacking(fan, weights, total):
    return total - weight(weights, fan[0])


def is_beyond(fan, weights, total):
    if len(fan[1]) > MOST_STEPS or abs(lacking(fan, weights, total)) > MOST_LACKING:
        return True
    return any([abs(weight(weights, step)) > MOST_WEIGHT for step in fan[1]])


def fan_by_sum(fan, weights, total):
    begin = fan[0]
    steps = fan[1]
    values = [weight(weights, step) for step in steps]
    noughts = (0,) * len(begin)
    loops = [taken(noughts, row, steps) for row in loops_of(values)]
    leasts = leasts_of(values, lacking(fan, weights, total))
    return [plain_fan(taken(begin, row, steps), loops) for row in leasts]


def cut_by_sum(some, weights, total):
    if any([is_beyond(fan, weights, total) for fan in some]):
        raise TooGreat("a fan has too many steps, or weighs too much")
    fans = []
    for fan in some:
        fans.extend(fan_by_sum(fan, weights, total))
    return tuple(fans)
