"""Points 19, 20 and 21: sets made few, and what is missing."""

import itertools
import random
import unittest

from helper import (
    GREAT, check_arguments, check_refused, check_same, is_led_over, long_of, plus, some_sets, sums_up_to,
    tallies_up_to,
)
from tallysets.errors import TooGreat
from tallysets.fans import is_set
from tallysets.fews import few, missing
from tallysets.leads import led

TOPS = {1: (30,), 2: (8, 8), 3: (5, 5, 5), 4: (3, 4, 3, 4)}

BEYOND = ((3000,), (59, 50), (14, 9, 20), (2, 4, 9, 20), (GREAT, 0), (0, 0, 3000))
SMALL = ((2999,), (59, 49), (14, 9, 19), (2, 4, 9, 19), (2999, 0), (0, 0, 2999))


def few_told(some):
    """The set made few as point 19 tells, by all sums gone through."""
    fans = []
    for begin, steps in some:
        kept = []
        for step in steps:
            others = [other for other in steps if other != step]
            if step not in sums_up_to(others, step):
                kept.append(step)
        fans.append((begin, tuple(kept)))
    stay = []
    for number, fan in enumerate(fans):
        others = [(place, other) for place, other in enumerate(fans) if place != number]
        if all(is_led_over(other, fan) and place > number
               for place, other in others if is_led_over(fan, other)):
            stay.append(fan)
    return tuple(stay)


def crowded_sets(seed, count):
    """Sets in which fans come twice or lie in others, and steps are sums of others."""
    chance = random.Random(seed)
    for some in some_sets(seed, count, most_fans=3, most_steps=3, top=2):
        fans = list(some)
        for begin, steps in some:
            sums = sorted(sums_up_to(steps, (3,) * len(begin)))
            more = {chance.choice(sums) for _ in range(2)} | set(steps)
            fans.append((begin, tuple(sorted(step for step in more if any(step)))))
            fans.append((plus(begin, chance.choice(sums)), steps))
            fans.append((plus(begin, chance.choice(sums)), steps[:1]))
        fans += chance.sample(fans, len(fans) // 3)
        chance.shuffle(fans)
        yield tuple(fans)


class Few(unittest.TestCase):
    def test_written_out(self):
        cases = (
            ((), ()),
            ((((0,), ()),), (((0,), ()),)),
            ((((5,), ((2,), (4,), (5,), (7,))),), (((5,), ((2,), (5,))),)),
            ((((0, 0), ((0, 1), (1, 0), (1, 1), (2, 3))),), (((0, 0), ((0, 1), (1, 0))),)),
            ((((0, 0), ((1, 1), (2, 2), (3, 3))),), (((0, 0), ((1, 1),)),)),
            ((((0, 0), ((0, 2), (0, 3), (1, 1))),), (((0, 0), ((0, 2), (0, 3), (1, 1))),)),
            # The same fan twice: the first stays.
            ((((1,), ()), ((0,), ((3,),)), ((1,), ())), (((1,), ()), ((0,), ((3,),)))),
            ((((1,), ((2,), (4,))), ((0,), ()), ((1,), ((2,),))), (((1,), ((2,),)), ((0,), ()))),
            # One that lies in another goes, wherever it stands.
            ((((4,), ()), ((0,), ((2,),))), (((0,), ((2,),)),)),
            ((((0,), ((2,),)), ((4,), ())), (((0,), ((2,),)),)),
            ((((4,), ((4,),)), ((0,), ((2,),)), ((3,), ((2,),)), ((5,), ((6,),))), (((0,), ((2,),)), ((3,), ((2,),)))),
            # These lie in one another in part only.
            ((((0,), ((2,),)), ((0,), ((3,),))), (((0,), ((2,),)), ((0,), ((3,),)))),
            ((((2, 0), ((0, 3), (1, 1))), ((0, 4), ())), (((2, 0), ((0, 3), (1, 1))), ((0, 4), ()))),
            # Each lies in the next one.
            ((((8,), ()), ((4,), ((4,),)), ((0,), ((4,),)), ((0,), ((2,),)), ((0,), ((1,),))), (((0,), ((1,),)),)),
        )
        for some, expected in cases:
            check_same(self, few(some), expected)

    def test_the_tallies_of_a_fan_in_two_others_together(self):
        some = (((0,), ((1,),)), ((0,), ((2,),)), ((1,), ((2,),)))
        check_same(self, few(some), (((0,), ((1,),)),))
        some = (((0,), ((2,), (3,))), ((2,), ((1,),)), ((0,), ()))
        check_same(self, few(some), (((0,), ((2,), (3,))), ((2,), ((1,),))))

    def test_as_told(self):
        for some in some_sets(200, 200, most_fans=6, most_steps=6):
            told = few(some)
            check_same(self, told, few_told(some))
            self.assertIs(is_set(told), True)

    def test_crowded_sets_as_told(self):
        for some in crowded_sets(201, 150):
            told = few(some)
            check_same(self, told, few_told(some))
            check_same(self, few(told), told)
            most = TOPS[long_of(some)]
            self.assertEqual(tallies_up_to(told, most), tallies_up_to(some, most))

    def test_led_over_both_ways(self):
        for some in crowded_sets(202, 40):
            self.assertIsNotNone(led(some, few(some)))
            self.assertIsNotNone(led(few(some), some))

    def test_none_can_be_spared(self):
        for some in crowded_sets(203, 40):
            told = few(some)
            for one, other in itertools.permutations(told, 2):
                self.assertFalse(is_led_over(one, other))
            for begin, steps in told:
                for step in steps:
                    self.assertNotIn(step, sums_up_to([other for other in steps if other != step], step))

    def test_in_any_order(self):
        fans = (((4,), ()), ((0,), ((2,), (6,))), ((0,), ((2,),)), ((3,), ()), ((3,), ()))
        for some in itertools.permutations(fans):
            check_same(self, few(some), few_told(some))

    def test_refused(self):
        for great in BEYOND:
            noughts = (0,) * len(great)
            good = (noughts, ((1,) * len(great),))
            for fan in ((great, ()), (noughts, (great,)), (great, ((1,) * len(great),))):
                for some in ((fan,), (fan, fan), (fan, good), (good, fan), (good, good, fan, good)):
                    check_refused(self, TooGreat, few, some)

    def test_just_small_ones_are_not_refused(self):
        for one in SMALL:
            check_same(self, few(((one, (one,)),)), ((one, (one,)),))
            check_same(self, few(((one, ()), ((0,) * len(one), (one,)))), (((0,) * len(one), (one,)),))

    def test_arguments(self):
        check_arguments(self, few, "some")


class Missing(unittest.TestCase):
    def test_written_out(self):
        one = (((2, 0), ((0, 3), (1, 1))), ((0, 4), ()))
        cases = (
            (one, one, (9, 9), None),
            (one, (), (9, 9), (0, 4)),
            (one, (), (1, 3), None),
            ((), one, (9, 9), None),
            ((), (), (9, 9), None),
            (one, one[:1], (9, 9), (0, 4)),
            (one, one[1:], (9, 9), (2, 0)),
            (one, one[1:], (1, 9), None),
            ((((0,), ((2,),)),), (((0,), ((4,),)), ((2,), ())), (30,), (6,)),
            ((((0,), ((2,),)),), (((0,), ((4,),)), ((2,), ())), (5,), None),
            ((((0,), ((1,),)),), (((1,), ((1,),)),), (3,), (0,)),
        )
        for one, other, most, expected in cases:
            check_same(self, missing(one, other, most), expected)

    def test_the_first_in_order(self):
        for seed in range(60):
            for long in (1, 2, 3, 4):
                one, other = some_sets(210 + seed * 4 + long, 2, longs=(long,))
                lost = tallies_up_to(one, TOPS[long]) - tallies_up_to(other, TOPS[long])
                check_same(self, missing(one, other, TOPS[long]), min(lost) if lost else None)

    def test_refused_just_where_the_tally_is_not_small(self):
        for great, small in zip(BEYOND, SMALL):
            for fans in ((), ((small, ()),), ((great, (great,)),)):
                for others in ((), fans):
                    check_refused(self, TooGreat, missing, fans, others, great)
                    check_refused(self, TooGreat, missing, others, fans, great)
                    check_same(self, missing(fans, fans, small), None)
            check_same(self, missing(((small, (great,)),), ((great, ()),), small), small)

    def test_arguments(self):
        check_arguments(self, missing, "one", "other", "most")


if __name__ == "__main__":
    unittest.main()
