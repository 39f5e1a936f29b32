"""Points 17, 18 and 21: fans and sets led over into others."""

import itertools
import random
import unittest

from helper import (
    GREAT, check_arguments, check_refused, check_same, come_to, fits, is_led_over, long_of, plus, some_fan,
    some_sets, sums_up_to,
)
from tallysets.cuts import cut_by_rest, cut_by_sum
from tallysets.errors import TooGreat
from tallysets.leads import led, led_fan

FAN = ((2, 0), ((0, 3), (1, 1)))

# Tallies that are not small, and as many that just are so.
BEYOND = ((3000,), (59, 50), (14, 9, 20), (2, 4, 9, 20), (GREAT, 0), (0, 3000), (0, 0, 0, 3000))
SMALL = ((2999,), (59, 49), (14, 9, 19), (2, 4, 9, 19), (2999, 0), (0, 2999), (0, 0, 0, 2999))


def some_pairs(seed, count, most_steps, top):
    """Pairs of fans of equally long tallies, of which about half lie in one another."""
    chance = random.Random(seed)
    for number in range(count):
        long = number % 4 + 1
        other = some_fan(chance, long, most_steps, top)
        if number % 3 == 0:
            yield some_fan(chance, long, most_steps, top), other
        else:
            # With the begin added, too, none is to be so great that it would be refused.
            highest = (40, 40, 12, 6)[long - 1] - top
            sums = sorted(sums_up_to(other[1], (min(2 * top, highest),) * long))
            begin = plus(other[0], chance.choice(sums))
            steps = {chance.choice(sums) for _ in range(chance.randint(0, 3))}
            yield (begin, tuple(sorted(step for step in steps if any(step)))), other


class Papers(unittest.TestCase):
    def check_row(self, row, begin, one, steps):
        self.assertIs(type(row), tuple)
        self.assertEqual(len(row), len(steps))
        self.assertTrue(all(type(count) is int and count >= 0 for count in row))
        self.assertEqual(come_to(begin, row, steps), one)

    def check_paper(self, one, other, paper):
        self.assertIs(type(paper), tuple)
        counts, rows = paper
        self.check_row(counts, other[0], one[0], other[1])
        self.assertIs(type(rows), tuple)
        self.assertEqual(len(rows), len(one[1]))
        for row, step in zip(rows, one[1]):
            self.check_row(row, (0,) * len(step), step, other[1])


class LedFan(Papers):
    def test_written_out(self):
        cases = (
            (FAN, FAN, ((0, 0), ((1, 0), (0, 1)))),
            (((2, 0), ()), FAN, ((0, 0), ())),
            (((3, 4), ()), FAN, ((1, 1), ())),
            (((3, 4), ((0, 6), (2, 5))), FAN, ((1, 1), ((2, 0), (1, 2)))),
            (((3, 3), ()), FAN, None),
            (((1, 9), ()), FAN, None),
            (((2, 0), ((0, 1),)), FAN, None),
            (((2, 0), ((0, 3), (1, 0))), FAN, None),
            (((2, 0), ((0, 2), (0, 3))), FAN, None),
            (((5,), ()), ((5,), ()), ((), ())),
            (((5,), ((1,),)), ((5,), ()), None),
            (((6,), ()), ((5,), ()), None),
            (((4,), ()), ((5,), ((1,),)), None),
            (((0, 0), ((1, 1),)), ((0, 0), ((0, 1), (1, 0))), ((0, 0), ((1, 1),))),
            (((0, 0), ((0, 1), (1, 0))), ((0, 0), ((1, 1),)), None),
        )
        for one, other, expected in cases:
            check_same(self, led_fan(one, other), expected)

    def test_just_where_it_lies_in_the_other(self):
        told = 0
        for one, other in some_pairs(150, 600, 4, 4):
            paper = led_fan(one, other)
            self.assertIs(paper is not None, is_led_over(one, other), (one, other))
            if paper is not None:
                told += 1
                self.check_paper(one, other, paper)
        self.assertTrue(200 < told < 550)

    def test_many_steps(self):
        for one, other in some_pairs(151, 60, 25, 5):
            paper = led_fan(one, other)
            self.assertIs(paper is not None, is_led_over(one, other))
            if paper is not None:
                self.check_paper(one, other, paper)

    def test_all_its_tallies_lie_in_the_other(self):
        for one, other in some_pairs(152, 120, 3, 3):
            if led_fan(one, other) is not None:
                most = (7,) * len(one[0])
                self.assertLessEqual(sums_up_to(one[1], most, one[0]), sums_up_to(other[1], most, other[0]))

    def test_refused(self):
        for great in BEYOND:
            noughts = (0,) * len(great)
            higher = (1,) * len(great)
            for fan in ((great, ()), (noughts, (great,)), (noughts, tuple(sorted((higher, great)))),
                        (great, (higher,))):
                for other in (fan, (noughts, ()), (higher, (higher,)), (plus(great, higher), ())):
                    check_refused(self, TooGreat, led_fan, fan, other)
                    check_refused(self, TooGreat, led_fan, other, fan)

    def test_just_small_ones_are_not_refused(self):
        for one in SMALL:
            noughts = (0,) * len(one)
            check_same(self, led_fan((one, (one,)), (noughts, (one,))), ((1,), ((1,),)))
            check_same(self, led_fan((noughts, (one,)), (one, (one,))), None)

    def test_arguments(self):
        check_arguments(self, led_fan, "one", "other")


class Led(Papers):
    def check(self, one, other):
        expected = all(any(is_led_over(fan, target) for target in other) for fan in one)
        told = led(one, other)
        self.assertIs(told is not None, expected, (one, other))
        if told is None:
            return False
        self.assertIs(type(told), tuple)
        self.assertEqual(len(told), len(one))
        for fan, pair in zip(one, told):
            self.assertIs(type(pair), tuple)
            number, paper = pair
            self.assertIs(type(number), int)
            self.assertTrue(0 <= number < len(other))
            self.check_paper(fan, other[number], paper)
        return True

    def test_written_out(self):
        other = (((0, 4), ()), FAN)
        check_same(self, led((FAN, ((0, 4), ())), other), ((1, ((0, 0), ((1, 0), (0, 1)))), (0, ((), ()))))
        check_same(self, led((((3, 1), ()),) * 2, other), ((1, ((0, 1), ())), (1, ((0, 1), ()))))
        check_same(self, led((FAN, ((0, 5), ())), other), None)
        check_same(self, led((((0, 5), ()), FAN), other), None)

    def test_no_fans(self):
        check_same(self, led((), ()), ())
        check_same(self, led((), (FAN,)), ())
        check_same(self, led((FAN,), ()), None)

    def test_sets(self):
        told = 0
        for seed in range(40):
            for long in (1, 2, 3, 4):
                one, other = some_sets(160 + seed * 4 + long, 2, most_fans=3, top=2, longs=(long,))
                told += self.check(one, other)
                self.check(other, one + other)
                self.check(one + other, other + one)
        self.assertTrue(10 < told < 150)

    def test_fans_into_several_fans(self):
        pairs = list(some_pairs(170, 300, 3, 3))
        for long in (1, 2, 3, 4):
            chosen = [(one, other) for one, other in pairs if len(one[0]) == long]
            for first in range(0, len(chosen) - 3, 3):
                group = chosen[first:first + 3]
                self.check(tuple(one for one, other in group), tuple(other for one, other in group))
                self.check(tuple(other for one, other in group), tuple(one for one, other in group))

    def test_each_fan_of_a_cut_set_into_that_of_which_it_comes(self):
        for some in some_sets(180, 60, most_fans=3, most_steps=3, top=2):
            weights = (1, -1, 2, -1)[:long_of(some)]
            for fan in some:
                for cut in (cut_by_rest((fan,), weights, 3, 1), cut_by_sum((fan,), weights, 1)):
                    if all(fits(one, (5,) * 4) for each in cut for one in (each[0],) + each[1]):
                        self.assertTrue(self.check(cut, (fan,)))
                        for each in cut:
                            self.check_paper(each, fan, led_fan(each, fan))

    def test_refused_ahead_of_all_else(self):
        for great in BEYOND:
            noughts = (0,) * len(great)
            good = (noughts, ())
            for fan in ((great, ()), (noughts, (great,))):
                for others in itertools.permutations((good, fan, good)):
                    check_refused(self, TooGreat, led, others, (good,))
                    check_refused(self, TooGreat, led, (good,), others)
                    check_refused(self, TooGreat, led, others, ())
                    check_refused(self, TooGreat, led, (), others)
                    check_refused(self, TooGreat, led, others, others)

    def test_just_small_ones_are_not_refused(self):
        for one in SMALL:
            some = ((one, (one,)),)
            check_same(self, led(some, some), ((0, ((0,), ((1,),))),))

    def test_arguments(self):
        check_arguments(self, led, "one", "other")


if __name__ == "__main__":
    unittest.main()
