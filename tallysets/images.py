"""Sets mapped, and letters left out of them."""

from tallysets.fans import plain_fan
from tallysets.tallies import taken


def mapped_tally(one, row):
    return taken((0,) * len(row[0]), one, row)


def mapped(some, row):
    return tuple([
        plain_fan(mapped_tally(fan[0], row), [mapped_tally(step, row) for step in fan[1]])
        for fan in some
    ])


def tally_without(one, place):
    return one[:place] + one[place + 1:]


def left_out(some, place):
    return tuple([
        plain_fan(tally_without(fan[0], place), [tally_without(step, place) for step in fan[1]])
        for fan in some
    ])
