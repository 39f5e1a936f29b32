"""Point 2: what a call tells depends on what it is handed and on nothing else."""

import unittest

from helper import GREAT, NO_PARTS
from tallysets.balances import leasts_of, loops_of
from tallysets.cuts import cut_by_rest, cut_by_sum
from tallysets.errors import TallyError
from tallysets.fans import fan_of, is_set
from tallysets.fews import few, missing
from tallysets.grammars import read_grammar, show_grammar, tally_of
from tallysets.images import left_out, mapped
from tallysets.languages import set_of, tree_for
from tallysets.leads import led, led_fan
from tallysets.marks import is_small, marks_of
from tallysets.rooms import grammar_of, walk_for
from tallysets.settexts import read_set, show_set
from tallysets.sums import joined, repeated, summed
from tallysets.tallies import added, at_most, is_tally, less, times, weight
from tallysets.trees import sign_of, word_of
from tallysets.withins import counts_of, table_of, within

STEPS = [(1, 1), (0, 0), (0, 3), (1, 1)]
FAN = ((2, 0), ((0, 3), (1, 1)))
GRAMMAR = (2, (("A", "aAb"), ("A", ""), ("A", "BB"), ("B", "ba")))
ROOMS = (2, ((0, "a", 1), (1, "b", 0), (0, "b", 0)), (0,))
SOME = (FAN, ((0, 4), ()), ((0, 1), ((1, 0),)))

CALLS = (
    (is_tally, (1, 2)),
    (is_tally, (1, True)),
    (is_tally, [1, 2]),
    (is_tally, ()),
    (added, (1, 2), (3, GREAT)),
    (added, (1,), (3,)),
    (times, 0, (1, 2, 3)),
    (times, 5, (1, 2, 3)),
    (at_most, (1, 2), (1, 3)),
    (at_most, (1, 3), (1, 2)),
    (less, (1, 3), (1, 2)),
    (less, (1, 2), (1, 3)),
    (less, (4, 4, 4, 4), (4, 4, 4, 4)),
    (weight, (1, -2), (3, 4)),
    (weight, (0, 0, 0, -1), (3, 4, 5, 6)),
    (fan_of, (2, 0), STEPS),
    (fan_of, (2, 0), tuple(STEPS)),
    (fan_of, (2, 0), []),
    (fan_of, (2, 0, 0), STEPS),
    (fan_of, None, ()),
    (is_set, ()),
    (is_set, (((2, 0), ((0, 3), (1, 1))),)),
    (is_set, (((2, 0), ((1, 1), (0, 3))),)),
    (is_set, ((2, 0), ((0, 3), (1, 1)))),
    (is_set, None),
    (show_set, SOME),
    (show_set, ()),
    (read_set, "2,0+0,3+1,1 | 0,4"),
    (read_set, "2,0+1,1+0,3 | 0,4"),
    (read_set, "-"),
    (is_small, (59, 49)),
    (is_small, (59, 50)),
    (marks_of, tuple(STEPS), (3, 4)),
    (marks_of, (), (3, 4)),
    (marks_of, tuple(STEPS), (59, 50)),
    (counts_of, FAN, (3, 4)),
    (counts_of, FAN, (1, 4)),
    (counts_of, FAN, (GREAT, 4)),
    (within, SOME, (3, 1)),
    (within, SOME, (1, 0)),
    (within, SOME, (GREAT, 1)),
    (table_of, SOME, (3, 5)),
    (table_of, (), (3, 5)),
    (table_of, SOME, (GREAT, 5)),
    (joined, SOME, (FAN,)),
    (summed, SOME, (FAN,)),
    (summed, (), SOME),
    (repeated, SOME, 2),
    (repeated, (), 3),
    (repeated, SOME * 2, 2),
    (mapped, SOME, ((1, 0, 2), (0, 1, 1))),
    (mapped, SOME, ((1,), (0,))),
    (left_out, SOME, 0),
    (left_out, SOME, 1),
    (loops_of, (3, -2, 0)),
    (loops_of, (3, 2)),
    (leasts_of, (3, -2, 0), 4),
    (leasts_of, (3, -2, 0), 0),
    (leasts_of, (3, 2), -1),
    (cut_by_rest, SOME, (1, -1), 3, 1),
    (cut_by_rest, SOME, (1, 0), 301, 0),
    (cut_by_sum, SOME, (1, -1), 2),
    (cut_by_sum, SOME, (1, -1), 40),
    (led_fan, ((3, 4), ((0, 6),)), FAN),
    (led_fan, FAN, ((3, 4), ((0, 6),))),
    (led_fan, ((GREAT, 4), ()), FAN),
    (led, (FAN, ((0, 4), ())), SOME),
    (led, SOME, (FAN,)),
    (led, (((GREAT, 4), ()),), SOME),
    (few, SOME + ((((3, 4), ((0, 6),))),) + SOME),
    (few, ()),
    (few, SOME + (((GREAT, 4), ()),)),
    (missing, SOME, (FAN,), (5, 5)),
    (missing, (FAN,), SOME, (5, 5)),
    (missing, (FAN,), SOME, (GREAT, 5)),
    (show_grammar, GRAMMAR),
    (read_grammar, "2;A=aAb;A=;A=BB;B=ba"),
    (read_grammar, "2;A=aAc"),
    (tally_of, 3, "abcab"),
    (tally_of, 1, ""),
    (sign_of, GRAMMAR, (2, ((3, ()), (3, ())))),
    (sign_of, GRAMMAR, (2, ((3, ()), (1, ())))),
    (word_of, GRAMMAR, (2, ((3, ()), (3, ())))),
    (word_of, GRAMMAR, (2, ((3, ()), (1, ())))),
    (set_of, GRAMMAR),
    (set_of, (1, (("B", "a"),))),
    (tree_for, GRAMMAR, (2, 2)),
    (tree_for, GRAMMAR, (2, 1)),
    (tree_for, GRAMMAR, (7, 6)),
    (grammar_of, ROOMS),
    (walk_for, ROOMS, (2, 3)),
    (walk_for, ROOMS, (1, 0)),
    (walk_for, ROOMS, (7, 6)),
)


def answer(call):
    """What the call tells, or the kind of its refusal, as a text that tells kinds apart."""
    try:
        return repr(call[0](*call[1:]))
    except TallyError as refusal:
        return type(refusal).__name__


class Again(unittest.TestCase):
    def setUp(self):
        self.first = [answer(call) for call in CALLS]

    def test_twice_at_once(self):
        for call, told in zip(CALLS, self.first):
            self.assertEqual([answer(call), answer(call)], [told, told])

    def test_behind_each_other_call(self):
        for other in CALLS:
            for call, told in zip(CALLS, self.first):
                answer(other)
                self.assertEqual(answer(call), told)

    def test_behind_all_calls_backwards(self):
        told = [answer(call) for call in reversed(CALLS)]
        self.assertEqual(told[::-1], self.first)

    def test_behind_many_refusals(self):
        for part in NO_PARTS:
            answer((fan_of, (1, part), ()))
            answer((fan_of, (1, 1), [(1, part)]))
            answer((less, (1, 1), (1, 2)))
        self.assertEqual([answer(call) for call in CALLS], self.first)

    def test_what_is_handed_in_stays(self):
        self.assertEqual(STEPS, [(1, 1), (0, 0), (0, 3), (1, 1)])

    def test_a_list_handed_in_anew_is_read_anew(self):
        steps = [(1, 1)]
        self.assertEqual(fan_of((0, 0), steps), ((0, 0), ((1, 1),)))
        steps.append((0, 2))
        self.assertEqual(fan_of((0, 0), steps), ((0, 0), ((0, 2), (1, 1))))
        steps.clear()
        self.assertEqual(fan_of((0, 0), steps), ((0, 0), ()))


if __name__ == "__main__":
    unittest.main()
