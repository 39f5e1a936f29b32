"""Points 9 and 10: counts, what is within, and tables."""

import random
import unittest

from helper import (
    GREAT, box, check_arguments, check_refused, check_same, come_to, fits, long_of, plus, some_fan, some_sets,
    sums_up_to, tallies_up_to,
)
from tallysets.errors import TooGreat
from tallysets.withins import counts_of, table_of, within

TOPS = {1: (30,), 2: (9, 9), 3: (5, 5, 5), 4: (3, 4, 3, 4)}

# Pairs of a begin and a tally: without the begin, the tally has a box of just 3000, or of more.
JUST_SMALL = (
    ((0,), (2999,)), ((5,), (3004,)), ((GREAT,), (GREAT + 2999,)), ((0, 0), (59, 49)),
    ((1, 2), (60, 51)), ((GREAT, 7), (GREAT, 3006)), ((0, 0, 0, 0), (2, 4, 9, 19)),
)
NOT_SMALL = (
    ((0,), (3000,)), ((5,), (3005,)), ((0,), (GREAT,)), ((0, 0), (59, 50)), ((1, 2), (61, 51)),
    ((GREAT, 7), (GREAT, 3007)), ((0, 0, 0), (14, 14, 14)), ((0, 0, 0, 0), (2, 4, 9, 20)),
)


class CountsOf(unittest.TestCase):
    def check_counts(self, fan, one, counts):
        self.assertIs(type(counts), tuple)
        self.assertEqual(len(counts), len(fan[1]))
        for count in counts:
            self.assertIs(type(count), int)
            self.assertGreaterEqual(count, 0)
        self.assertEqual(come_to(fan[0], counts, fan[1]), one)

    def test_written_out(self):
        fan = ((2, 0), ((0, 3), (1, 1)))
        cases = (
            (fan, (2, 0), (0, 0)),
            (fan, (2, 6), (2, 0)),
            (fan, (4, 2), (0, 2)),
            (fan, (3, 10), (3, 1)),
            (fan, (2, 1), None),
            (fan, (4, 3), None),
            (fan, (1, 9), None),
            (fan, (0, 0), None),
            (((5,), ()), (5,), ()),
            (((5,), ()), (6,), None),
            (((5,), ()), (4,), None),
            (((0,), ((7,),)), (70,), (10,)),
            (((0,), ((7,),)), (71,), None),
            (((GREAT, 1), ((0, 2),)), (GREAT, 9), (4,)),
            (((0, 0), ((0, 1), (GREAT, 0))), (0, 4), (4, 0)),
        )
        for fan, one, expected in cases:
            check_same(self, counts_of(fan, one), expected)

    def test_against_all_sums(self):
        chance = random.Random(4)
        for number in range(120):
            long = number % 4 + 1
            fan = some_fan(chance, long, 5, 4)
            reached = sums_up_to(fan[1], TOPS[long], fan[0])
            for one in box(TOPS[long]):
                counts = counts_of(fan, one)
                if one in reached:
                    self.check_counts(fan, one, counts)
                else:
                    self.assertIsNone(counts)

    def test_many_steps(self):
        steps = tuple((number // 7, number % 7 + 2) for number in range(40))
        reached = sums_up_to(steps, (9, 13), (1, 1))
        for one in box((9, 13)):
            counts = counts_of(((1, 1), steps), one)
            self.assertIs(counts is not None, one in reached)
            if counts is not None:
                self.check_counts(((1, 1), steps), one, counts)

    def test_just_small(self):
        for begin, one in JUST_SMALL:
            rest = tuple(left - right for left, right in zip(one, begin))
            self.assertEqual(len(box(rest)), 3000)
            self.assertIsNone(counts_of((begin, ()), one))
            check_same(self, counts_of((begin, (rest,)), one), (1,))

    def test_refused(self):
        for begin, one in NOT_SMALL:
            for steps in ((), ((1,) * len(one),), (one,)):
                check_refused(self, TooGreat, counts_of, (begin, steps), one)

    def test_not_refused_where_the_begin_is_not_at_most(self):
        for fan, one in (
            (((1, 0), ((0, 1),)), (0, GREAT)), (((0, GREAT), ()), (GREAT, 0)), (((GREAT,), ((1,),)), (3000,)),
            (((0, 0, 0, 1), ()), (9, 9, 9, 0)),
        ):
            self.assertIsNone(counts_of(fan, one))

    def test_arguments(self):
        check_arguments(self, counts_of, "fan", "one")


class Within(unittest.TestCase):
    def check_pair(self, some, one, told):
        self.assertIs(type(told), tuple)
        number, counts = told
        self.assertIs(type(number), int)
        self.assertIs(type(counts), tuple)
        begin, steps = some[number]
        self.assertTrue(number >= 0 and all(type(count) is int and count >= 0 for count in counts))
        self.assertEqual(come_to(begin, counts, steps), one)

    def test_written_out(self):
        some = (((2, 0), ((0, 3), (1, 1))), ((0, 4), ()), ((0, 0), ((5, 5),)))
        cases = (
            ((2, 3), (0, (1, 0))), ((0, 4), (1, ())), ((0, 0), (2, (0,))), ((10, 10), (2, (2,))),
            ((1, 0), None), ((0, 5), None), ((0, 8), None), ((5, 6), (0, (1, 3))),
        )
        for one, expected in cases:
            check_same(self, within(some, one), expected)

    def test_no_fans(self):
        for one in ((0,), (3000,), (GREAT, GREAT), (1, 2, 3, 4)):
            self.assertIsNone(within((), one))

    def test_against_all_tallies(self):
        for some in some_sets(5, 120):
            most = TOPS[long_of(some)]
            reached = tallies_up_to(some, most)
            for one in box(most):
                told = within(some, one)
                self.assertIs(told is not None, one in reached, (some, one))
                if told is not None:
                    self.check_pair(some, one, told)

    def test_a_fan_twice(self):
        fan = ((1,), ((2,),))
        self.check_pair((fan, fan), (7,), within((fan, fan), (7,)))

    def test_refused_ahead_of_all_else(self):
        for begin, one in NOT_SMALL:
            noughts = (0,) * len(one)
            great = (begin, ())
            good = (one, ())
            other = (plus(one, (1,) * len(one)), ())
            check_refused(self, TooGreat, within, (great,), one)
            check_refused(self, TooGreat, within, (good, great), one)
            check_refused(self, TooGreat, within, (great, good), one)
            check_refused(self, TooGreat, within, (other, good, (noughts, ((1,) * len(one),))), one)
            check_same(self, within((other, good), one), (1, ()))
            self.assertIsNone(within((other, other), one))

    def test_just_small(self):
        for begin, one in JUST_SMALL:
            self.assertIsNone(within(((begin, ()),), one))

    def test_arguments(self):
        check_arguments(self, within, "some", "one")


class TableOf(unittest.TestCase):
    def test_written_out(self):
        some = (((2, 0), ((0, 3), (1, 1))), ((0, 4), ()))
        check_same(self, table_of(some, (3, 4)), ((0, 4), (2, 0), (2, 3), (3, 1), (3, 4)))
        check_same(self, table_of(some, (1, 9)), ((0, 4),))
        check_same(self, table_of(some, (1, 3)), ())
        check_same(self, table_of((((0,), ((3,),)), ((1,), ((2,),))), (7,)),
                   ((0,), (1,), (3,), (5,), (6,), (7,)))

    def test_no_fans(self):
        for most in ((0,), (2999,), (1, 2), (6, 6, 6, 6)):
            check_same(self, table_of((), most), ())

    def test_against_all_tallies(self):
        for some in some_sets(6, 300, most_fans=6):
            most = TOPS[long_of(some)]
            check_same(self, table_of(some, most), tuple(sorted(tallies_up_to(some, most))))
            for lower in (box(most)[0], box(most)[7], box(most)[-8]):
                expected = [one for one in tallies_up_to(some, most) if fits(one, lower)]
                check_same(self, table_of(some, lower), tuple(sorted(expected)))

    def test_each_once(self):
        fan = ((0, 1), ((1, 0),))
        check_same(self, table_of((fan, fan, ((1, 1), ())), (2, 1)), ((0, 1), (1, 1), (2, 1)))

    def test_just_small(self):
        units = ((0, 1), (1, 0))
        check_same(self, table_of((((0, 0), units),), (59, 49)), tuple(box((59, 49))))
        check_same(self, table_of((((0,), ((1500,),)),), (2999,)), ((0,), (1500,)))

    def test_refused(self):
        for begin, one in NOT_SMALL:
            most = tuple(left - right for left, right in zip(one, begin))
            check_refused(self, TooGreat, table_of, (), most)
            check_refused(self, TooGreat, table_of, ((most, ()),), most)
            # Refused for the tally itself, even where what is left without the begin is small.
            check_refused(self, TooGreat, table_of, ((most, (most,)), (most, ())), most)
            check_refused(self, TooGreat, table_of, ((plus(most, most), ()),), most)

    def test_arguments(self):
        check_arguments(self, table_of, "some", "most")


if __name__ == "__main__":
    unittest.main()
