"""Points 11 and 13: sets joined, summed and repeated."""

import unittest

from helper import (
    GREAT, box, check_arguments, check_refused, check_same, fits, long_of, plus, some_sets, sums_up_to,
    tallies_up_to,
)
from tallysets.errors import TooGreat
from tallysets.fans import is_set
from tallysets.sums import joined, repeated, summed

TOPS = {1: (25,), 2: (8, 8), 3: (4, 5, 4), 4: (3, 3, 3, 3)}

ONE = (((2, 0), ((0, 3), (1, 1))), ((0, 4), ()))
OTHER = (((0, 0), ((0, 3),)), ((1, 5), ((0, 1), (1, 1), (2, 0))), ((7, 7), ()))


def pairs(seed, count, **sizes):
    """Pairs of sets whose tallies are equally long."""
    for long in (1, 2, 3, 4):
        made = some_sets(seed + long, 2 * count, longs=(long,), **sizes)
        yield from ((long, one, other) for one, other in zip(made[:count], made[count:]))


def noughts_out(steps):
    return tuple(sorted({step for step in steps if any(step)}))


def all_added(tallies, long):
    whole = (0,) * long
    for one in tallies:
        whole = plus(whole, one)
    return whole


class Joined(unittest.TestCase):
    def test_the_one_and_then_the_other(self):
        check_same(self, joined(ONE, OTHER), ONE + OTHER)
        check_same(self, joined(OTHER, ONE), OTHER + ONE)
        check_same(self, joined(ONE, ONE), ONE + ONE)

    def test_no_fans(self):
        check_same(self, joined((), ()), ())
        check_same(self, joined(ONE, ()), ONE)
        check_same(self, joined((), ONE), ONE)

    def test_fan_by_fan(self):
        for long, one, other in pairs(10, 20):
            told = joined(one, other)
            self.assertIs(is_set(told), True)
            check_same(self, told, tuple(list(one) + list(other)))
            self.assertEqual(
                tallies_up_to(told, TOPS[long]), tallies_up_to(one, TOPS[long]) | tallies_up_to(other, TOPS[long]))

    def test_arguments(self):
        check_arguments(self, joined, "one", "other")


class Summed(unittest.TestCase):
    def test_written_out(self):
        check_same(self, summed(ONE, OTHER), (
            ((2, 0), ((0, 3), (1, 1))),
            ((3, 5), ((0, 1), (0, 3), (1, 1), (2, 0))),
            ((9, 7), ((0, 3), (1, 1))),
            ((0, 4), ((0, 3),)),
            ((1, 9), ((0, 1), (1, 1), (2, 0))),
            ((7, 11), ()),
        ))

    def test_great_numbers(self):
        one = (((GREAT,), ((GREAT,),)),)
        check_same(self, summed(one, one), (((2 * GREAT,), ((GREAT,),)),))

    def test_no_fans(self):
        check_same(self, summed((), ()), ())
        check_same(self, summed(ONE, ()), ())
        check_same(self, summed((), ONE), ())

    def test_fan_by_fan(self):
        for long, one, other in pairs(20, 30, most_steps=6):
            expected = tuple(
                (plus(left[0], right[0]), tuple(sorted(set(left[1]) | set(right[1]))))
                for left in one for right in other
            )
            check_same(self, summed(one, other), expected)
            self.assertIs(is_set(summed(one, other)), True)

    def test_all_sums_and_no_others(self):
        for long, one, other in pairs(30, 25, most_fans=3):
            most = TOPS[long]
            rights = tallies_up_to(other, most)
            sums = {plus(left, right) for left in tallies_up_to(one, most) for right in rights}
            self.assertEqual(tallies_up_to(summed(one, other), most), {each for each in sums if fits(each, most)})

    def test_arguments(self):
        check_arguments(self, summed, "one", "other")


class Repeated(unittest.TestCase):
    def test_none_to_two_fans(self):
        for long in (1, 2, 3, 4):
            check_same(self, repeated((), long), (((0,) * long, ()),))
        check_same(self, repeated(ONE, 2), (
            ((0, 0), ()),
            ((2, 0), ((0, 3), (1, 1), (2, 0))),
            ((0, 4), ((0, 4),)),
            ((2, 4), ((0, 3), (0, 4), (1, 1), (2, 0))),
        ))

    def test_noughts_and_steps_twice(self):
        some = (((0, 0), ((1, 0),)), ((1, 0), ((1, 0),)), ((0, 0), ()))
        check_same(self, repeated(some, 2), (
            ((0, 0), ()),
            ((0, 0), ((1, 0),)),
            ((1, 0), ((1, 0),)),
            ((1, 0), ((1, 0),)),
            ((0, 0), ()),
            ((0, 0), ((1, 0),)),
            ((1, 0), ((1, 0),)),
            ((1, 0), ((1, 0),)),
        ))

    def test_five_fans_in_order(self):
        some = tuple(((10 ** number,), ()) for number in range(5))
        told = repeated(some, 1)
        self.assertEqual(len(told), 32)
        for number, fan in enumerate(told):
            figures = f"{number:b}"
            steps = [(10 ** place,) for place in range(5) if number & 1 << place]
            check_same(self, fan, ((int(figures),), tuple(steps)))

    def test_fan_by_fan(self):
        for some in some_sets(40, 120, most_fans=5, top=4):
            long = long_of(some)
            told = repeated(some, long)
            self.assertIs(is_set(told), True)
            self.assertEqual(len(told), 2 ** len(some))
            for number, fan in enumerate(told):
                chosen = [each for place, each in enumerate(some) if number & 1 << place]
                begin = all_added([each[0] for each in chosen], long)
                steps = [step for each in chosen for step in (each[0],) + each[1]]
                check_same(self, fan, (begin, noughts_out(steps)))

    def test_all_sums_and_no_others(self):
        for some in some_sets(50, 80, most_fans=5, most_steps=2):
            long = long_of(some)
            sums = sums_up_to(tallies_up_to(some, TOPS[long]), TOPS[long])
            self.assertEqual(tallies_up_to(repeated(some, long), TOPS[long]), sums)
            self.assertTrue(sums <= set(box(TOPS[long])))

    def test_refused_with_six_fans(self):
        fan = ((1, 0), ())
        self.assertEqual(len(repeated((fan,) * 5, 2)), 32)
        for count in (6, 7, 100):
            check_refused(self, TooGreat, repeated, (fan,) * count, 2)
        check_refused(self, TooGreat, repeated, tuple(((number,), ()) for number in range(6)), 1)

    def test_arguments(self):
        check_arguments(self, repeated, "some", "long")


if __name__ == "__main__":
    unittest.main()
