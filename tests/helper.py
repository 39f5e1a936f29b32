"""What several tests need: samples, and how refusals and answers are looked at."""

import inspect
import itertools

from tallysets.errors import NoFan, NoTally, NoText, NoTree, TallyError, TooGreat

GREAT = 10 ** 15

REFUSALS = (NoTally, NoFan, NoText, NoTree, TooGreat)

# Things that are no numbers from 0 on, so that none of them stands in a tally.
NO_PARTS = (
    -1, -2, -GREAT, True, False, None, "", "1", "a", [], [1], (), (1,), (0, 0),
    {}, {1: 1}, 1.0, 0.0, -0.5, 1j, b"1", {1}, object(), int, len,
)

# Things that are no tallies of whatever length, no fans and no sets.
NO_TUPLES = (
    None, True, False, 0, 1, 2, -1, GREAT, "", "a", "-", "0", "1,2", "2,0+0,3",
    [], [0], [1, 2], [[1, 2]], [(1, 2)], [((1, 2), ())], {}, {1: 2}, {(1, 2): ()},
    1.5, 1j, b"ab", {1}, frozenset(), range(2), object(), int, len, iter(()),
)


def tallies_as_long(long):
    """All tallies with so many numbers, of noughts, small numbers and a great one."""
    return list(itertools.product((0, 1, 3, GREAT), repeat=long))


def replaced(row, place, thing):
    """The tuple row with the thing at the place."""
    return row[:place] + (thing,) + row[place + 1:]


def inserted(row, place, thing):
    """The tuple row with the thing put in ahead of the place."""
    return row[:place] + (thing,) + row[place:]


def check_refused(test, refusal, call, *things):
    """The call refuses these things with that refusal, and with no other one."""
    with test.assertRaises(TallyError) as caught:
        call(*things)
    test.assertIsInstance(caught.exception, ValueError)
    kinds = [kind for kind in REFUSALS if isinstance(caught.exception, kind)]
    test.assertEqual(kinds, [refusal])


def check_same(test, told, expected):
    """Equal, and of the same kinds through and through (1 is not True, a list no tuple)."""
    test.assertEqual(told, expected)
    test.assertEqual(repr(told), repr(expected))
    test.assertIs(type(told), type(expected))


def check_arguments(test, call, *names):
    """The call has just these arguments, in this order."""
    test.assertEqual(tuple(inspect.signature(call).parameters), names)
