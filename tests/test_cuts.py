"""Points 15 and 16: sets cut by rests and by equations."""

import itertools
import math
import random
import unittest

from helper import (
    GREAT, check_arguments, check_refused, check_same, come_to, leasts_gone_through, long_of, loops_gone_through,
    some_sets, tallies_up_to,
)
from tallysets.cuts import cut_by_rest, cut_by_sum
from tallysets.errors import TooGreat
from tallysets.fans import is_set

TOPS = {1: (30,), 2: (9, 9), 3: (5, 5, 5), 4: (3, 4, 3, 4)}

ONE = (((2, 0), ((0, 3), (1, 1))), ((0, 4), ()))


def heft(weights, one):
    return sum(factor * part for factor, part in zip(weights, one, strict=True))


def fan_with(begin, steps):
    return (begin, tuple(sorted({step for step in steps if any(step)})))


def round_told(step_heft, by):
    return next(turns for turns in range(1, by + 1) if turns * step_heft % by == 0)


def rest_told(some, weights, by, rest):
    """The set cut by a rest as point 15 tells, or None where it is refused."""
    fans = []
    for begin, steps in some:
        rounds = [round_told(heft(weights, step), by) for step in steps]
        rows = 1
        for turns in rounds:
            rows *= turns
        if rows > 300:
            return None
        longer = [come_to((0,) * len(begin), (turns,), (step,)) for turns, step in zip(rounds, steps)]
        for row in itertools.product(*[range(turns) for turns in rounds]):
            reached = come_to(begin, row, steps)
            if heft(weights, reached) % by == rest:
                fans.append(fan_with(reached, longer))
    return tuple(fans)


def sum_told(some, weights, total):
    """The set cut by an equation as point 16 tells; it is not to be refused."""
    fans = []
    for begin, steps in some:
        values = tuple(heft(weights, step) for step in steps)
        loops = [come_to((0,) * len(begin), row, steps) for row in loops_gone_through(values)]
        for row in leasts_gone_through(values, total - heft(weights, begin)):
            fans.append(fan_with(come_to(begin, row, steps), loops))
    return tuple(fans)


def some_weights(chance, long, steepest):
    return tuple(chance.randint(-steepest, steepest) for _ in range(long))


class CutByRest(unittest.TestCase):
    def test_written_out(self):
        check_same(self, cut_by_rest(ONE, (1, 0), 2, 0), (((2, 0), ((0, 3), (2, 2))), ((0, 4), ())))
        check_same(self, cut_by_rest(ONE, (1, 0), 2, 1), (((3, 1), ((0, 3), (2, 2))),))
        check_same(self, cut_by_rest(ONE, (1, 1), 2, 0), (((2, 0), ((0, 6), (1, 1))), ((0, 4), ())))
        check_same(self, cut_by_rest(ONE, (1, 1), 2, 1), (((2, 3), ((0, 6), (1, 1))),))
        check_same(self, cut_by_rest(ONE, (0, 1), 4, 1),
                   (((3, 1), ((0, 12), (4, 4))), ((4, 5), ((0, 12), (4, 4))), ((5, 9), ((0, 12), (4, 4))),
                    ((2, 9), ((0, 12), (4, 4)))))

    def test_weights_below_nought(self):
        some = (((1,), ((1,),)),)
        check_same(self, cut_by_rest(some, (-1,), 3, 0), (((3,), ((3,),)),))
        check_same(self, cut_by_rest(some, (-1,), 3, 1), (((2,), ((3,),)),))
        check_same(self, cut_by_rest(some, (-1,), 3, 2), (((1,), ((3,),)),))

    def test_steps_that_become_one(self):
        some = (((0,), ((1,), (2,))),)
        check_same(self, cut_by_rest(some, (1,), 2, 0), (((0,), ((2,),)),))
        check_same(self, cut_by_rest(some, (1,), 2, 1), (((1,), ((2,),)),))

    def test_by_one_all_stay(self):
        for some in some_sets(130, 40):
            check_same(self, cut_by_rest(some, (1, 2, 3, 4)[:long_of(some)], 1, 0), some)

    def test_no_fans(self):
        check_same(self, cut_by_rest((), (1, 2), 12, 7), ())

    def test_fans_without_steps(self):
        some = (((1, 2), ()), ((4, 0), ()), ((3, 3), ()))
        check_same(self, cut_by_rest(some, (1, 1), 3, 0), (((1, 2), ()), ((3, 3), ())))
        check_same(self, cut_by_rest(some, (1, 1), 3, 1), (((4, 0), ()),))
        check_same(self, cut_by_rest(some, (1, 1), 3, 2), ())

    def test_fan_by_fan(self):
        chance = random.Random(131)
        refused = 0
        for some in some_sets(132, 300, most_steps=4):
            weights = some_weights(chance, long_of(some), 9)
            by = chance.randint(1, 12)
            rest = chance.randint(0, by - 1)
            expected = rest_told(some, weights, by, rest)
            if expected is None:
                refused += 1
                check_refused(self, TooGreat, cut_by_rest, some, weights, by, rest)
            else:
                told = cut_by_rest(some, weights, by, rest)
                check_same(self, told, expected)
                self.assertIs(is_set(told), True)
        self.assertGreater(refused, 10)

    def test_just_the_tallies_with_that_rest(self):
        chance = random.Random(133)
        for some in some_sets(134, 60, most_fans=3, most_steps=3):
            most = TOPS[long_of(some)]
            weights = some_weights(chance, long_of(some), 6)
            by = chance.randint(1, 6)
            table = tallies_up_to(some, most)
            for rest in range(by):
                kept = {one for one in table if heft(weights, one) % by == rest}
                self.assertEqual(tallies_up_to(cut_by_rest(some, weights, by, rest), most), kept)

    def test_refused_where_rounds_are_too_many(self):
        # By these weights a step weighs its first number, so its second keeps it apart from others.
        cases = (
            (12, (1, 1, 6), 288, False), (12, (1, 4, 4, 4), 324, True), (10, (1, 2, 2), 250, False),
            (10, (1, 5, 5, 5, 5, 5), 320, True), (7, (1, 1, 1), 343, True), (7, (1, 1), 49, False),
            (2, (1,) * 8, 256, False), (2, (1,) * 9, 512, True), (3, (1,) * 5, 243, False),
            (300, (1,), 300, False), (301, (1,), 301, True), (60, (1, 12), 300, False), (43, (1,), 43, False),
            (12, (0,) * 30 + (12,) * 10, 1, False), (12, (1,) * 40, 12 ** 40, True),
        )
        for by, hefts, product, refused in cases:
            self.assertEqual(product, math.prod(round_told(part, by) for part in hefts))
            steps = tuple(sorted((part, number + 1) for number, part in enumerate(hefts)))
            fan = ((0, 1), steps)
            plain = ((5, 5), ())
            for some in ((fan,), (fan, plain), (plain, fan), (plain, fan, plain)):
                for rest in (0, by - 1):
                    if refused:
                        check_refused(self, TooGreat, cut_by_rest, some, (1, 0), by, rest)
                    else:
                        check_same(self, cut_by_rest(some, (1, 0), by, rest), rest_told(some, (1, 0), by, rest))

    def test_fans_are_not_taken_together_for_the_bound(self):
        some = (((0,), ((1,),)),) * 5
        self.assertEqual(len(cut_by_rest(some, (1,), 12, 5)), 5)

    def test_arguments(self):
        check_arguments(self, cut_by_rest, "some", "weights", "by", "rest")


class CutBySum(unittest.TestCase):
    def test_written_out(self):
        check_same(self, cut_by_sum(ONE, (1, -1), 2), (((2, 0), ((1, 1),)),))
        check_same(self, cut_by_sum(ONE, (1, -1), -1), (((2, 3), ((1, 1),)),))
        check_same(self, cut_by_sum(ONE, (1, -1), 1), ())
        check_same(self, cut_by_sum(ONE, (1, -1), -4), (((2, 6), ((1, 1),)), ((0, 4), ())))
        some = (((0, 0), ((0, 1), (1, 0))),)
        check_same(self, cut_by_sum(some, (2, -3), 0), (((0, 0), ((3, 2),)),))
        check_same(self, cut_by_sum(some, (2, -3), 1), (((2, 1), ((3, 2),)),))
        check_same(self, cut_by_sum(some, (1, 1), 2), (((2, 0), ()), ((1, 1), ()), ((0, 2), ())))

    def test_loops_that_become_one(self):
        some = (((0, 0), ((1, 1), (2, 2))),)
        check_same(self, cut_by_sum(some, (1, -1), 0), (((0, 0), ((1, 1), (2, 2))),))
        some = (((0,), ((1,), (2,))),)
        check_same(self, cut_by_sum(some, (0,), 0), (((0,), ((1,), (2,))),))
        some = (((0, 0, 0), ((0, 0, 1), (0, 1, 0), (1, 0, 1), (1, 1, 0))),)
        check_same(self, cut_by_sum(some, (0, 1, -1), 0), sum_told(some, (0, 1, -1), 0))

    def test_no_fans(self):
        check_same(self, cut_by_sum((), (1, 2), 1000), ())

    def test_fans_without_steps(self):
        some = (((1, 2), ()), ((4, 0), ()), ((2, 1), ()))
        check_same(self, cut_by_sum(some, (1, 1), 3), (((1, 2), ()), ((2, 1), ())))
        check_same(self, cut_by_sum(some, (1, -1), 4), (((4, 0), ()),))
        check_same(self, cut_by_sum(some, (1, 1), 0), ())

    def test_great_numbers(self):
        some = (((GREAT, GREAT), ((0, 1), (GREAT, GREAT))),)
        check_same(self, cut_by_sum(some, (1, -1), -2), (((GREAT, GREAT + 2), ((GREAT, GREAT),)),))

    def test_fan_by_fan(self):
        chance = random.Random(140)
        for some in some_sets(141, 250, most_steps=5, top=2):
            weights = some_weights(chance, long_of(some), 1)
            total = chance.randint(-12, 12)
            told = cut_by_sum(some, weights, total)
            check_same(self, told, sum_told(some, weights, total))
            self.assertIs(is_set(told), True)

    def test_steeper_weights_fan_by_fan(self):
        chance = random.Random(142)
        for some in some_sets(143, 120, most_steps=3, top=1):
            weights = tuple(chance.choice((-2, 2)) * part for part in (1, 1, 1, 1)[:long_of(some)])
            total = chance.randint(-20, 20)
            check_same(self, cut_by_sum(some, weights, total), sum_told(some, weights, total))

    def test_just_the_tallies_of_that_weight(self):
        chance = random.Random(144)
        for some in some_sets(145, 80, most_fans=3, most_steps=4, top=2):
            most = TOPS[long_of(some)]
            weights = some_weights(chance, long_of(some), 1)
            table = tallies_up_to(some, most)
            for total in range(-6, 7):
                kept = {one for one in table if heft(weights, one) == total}
                self.assertEqual(tallies_up_to(cut_by_sum(some, weights, total), most), kept)

    def check_bound(self, good, beyond, weights, total):
        """Just the one of the fans is refused, wherever it stands."""
        plain = (tuple(0 for part in weights), ())
        for others in ((), (plain,), (plain, good)):
            for some in itertools.permutations(others + (good,)):
                check_same(self, cut_by_sum(some, weights, total), sum_told(some, weights, total))
            for some in itertools.permutations(others + (beyond,)):
                check_refused(self, TooGreat, cut_by_sum, some, weights, total)

    def test_refused_with_six_steps(self):
        steps = tuple((0, number) for number in range(1, 7))
        self.check_bound(((0, 0), steps[:5]), ((0, 0), steps), (1, 0), 0)
        self.check_bound(((1, 0), steps[1:]), ((1, 0), steps), (1, 0), 3)

    def test_refused_where_a_step_is_too_heavy(self):
        for sign in (1, -1):
            for lighter in ((), ((0, 1),)):
                good = ((0, 0), lighter + ((8, 0),))
                beyond = ((0, 0), lighter + ((9, 0),))
                self.check_bound(good, beyond, (sign, 1), 3 * sign)
            self.check_bound(((0, 0), ((8, 16),)), ((0, 0), ((8, 17),)), (-sign, sign), 0)

    def test_refused_where_the_begin_is_too_far(self):
        for steps in ((), ((0, 1),), ((0, 1), (1, 0))):
            self.check_bound(((35, 0), steps), ((36, 0), steps), (1, 1), 5)
            self.check_bound(((35, 0), steps), ((36, 0), steps), (-1, 1), -5)
        self.assertEqual(cut_by_sum((((0,), ()),), (1,), 30), ())
        self.assertEqual(cut_by_sum((((0,), ()),), (1,), -30), ())
        for steps in ((), ((1,),), ((8,),)):
            check_refused(self, TooGreat, cut_by_sum, (((0,), steps),), (1,), 31)
            check_refused(self, TooGreat, cut_by_sum, (((0,), steps),), (1,), -31)
            check_refused(self, TooGreat, cut_by_sum, (((GREAT,), steps),), (1,), 0)

    def test_arguments(self):
        check_arguments(self, cut_by_sum, "some", "weights", "total")


if __name__ == "__main__":
    unittest.main()
