"""Points 7 and 8: small tallies, and marks."""

import random
import unittest

from helper import GREAT, box, check_arguments, check_refused, check_same, some_tally, sums_up_to
from tallysets.errors import TooGreat
from tallysets.marks import is_small, marks_of

# Boxes of just 3000, and of more by as little as may be.
SMALL = (
    (0,), (1,), (2999,), (0, 0), (2999, 0), (0, 2999), (59, 49), (2, 999), (0, 0, 0), (14, 9, 19),
    (0, 2999, 0), (2, 9, 99), (0, 0, 0, 0), (0, 0, 0, 2999), (2, 4, 9, 19), (1, 2, 4, 99), (6, 6, 6, 6),
)
GREATER = (
    (3000,), (3001,), (GREAT,), (3000, 0), (0, 3000), (59, 50), (60, 49), (GREAT, GREAT), (54, 54),
    (0, 0, 3000), (0, 3000, 0), (14, 9, 20), (14, 14, 14), (3000, 0, 0, 0), (0, 0, 3000, 0),
    (2, 4, 9, 20), (3, 4, 9, 19), (7, 7, 7, 7), (0, GREAT, 0, 0),
)


class IsSmall(unittest.TestCase):
    def test_small(self):
        for one in SMALL:
            self.assertIs(is_small(one), True, one)

    def test_not_small(self):
        for one in GREATER:
            self.assertIs(is_small(one), False, one)

    def test_a_box_of_3001(self):
        for one in ((3000,), (0, 3000), (3000, 0, 0), (0, 0, 3000, 0)):
            self.assertEqual(len(box(one)), 3001)
            self.assertIs(is_small(one), False)

    def test_by_the_size_of_the_box(self):
        chance = random.Random(1)
        for number in range(400):
            long = number % 4 + 1
            one = some_tally(chance, long, (4000, 70, 17, 9)[long - 1])
            self.assertIs(is_small(one), len(box(one)) <= 3000, one)

    def test_arguments(self):
        check_arguments(self, is_small, "one")


class MarksOf(unittest.TestCase):
    def test_written_out(self):
        cases = (
            ((), (0,), ((0,),)),
            ((), (5,), ((0,),)),
            (((0,),), (5,), ((0,),)),
            (((1,),), (0,), ((0,),)),
            (((2,),), (5,), ((0,), (2,), (4,))),
            (((3,), (5,)), (10,), ((0,), (3,), (5,), (6,), (8,), (9,), (10,))),
            (((5,), (3,), (0,), (5,)), (10,), ((0,), (3,), (5,), (6,), (8,), (9,), (10,))),
            (((6,),), (5,), ((0,),)),
            (((5,),), (5,), ((0,), (5,))),
            (((1, 1), (0, 2)), (2, 3), ((0, 0), (0, 2), (1, 1), (1, 3), (2, 2))),
            (((1, 0), (0, 1)), (1, 2), ((0, 0), (0, 1), (0, 2), (1, 0), (1, 1), (1, 2))),
            (((2, 0), (1, 3)), (3, 2), ((0, 0), (2, 0))),
            (((GREAT, 0), (0, 2)), (1, 4), ((0, 0), (0, 2), (0, 4))),
            (((1, 0, 1),), (2, 0, 1), ((0, 0, 0), (1, 0, 1))),
            (((0, 0, 0, 1), (1, 1, 0, 0)), (1, 1, 1, 1),
             ((0, 0, 0, 0), (0, 0, 0, 1), (1, 1, 0, 0), (1, 1, 0, 1))),
        )
        for steps, most, expected in cases:
            check_same(self, marks_of(steps, most), expected)
            check_same(self, marks_of(steps[::-1], most), expected)

    def test_against_all_sums(self):
        chance = random.Random(2)
        for number in range(240):
            long = number % 4 + 1
            most = some_tally(chance, long, (60, 12, 6, 4)[long - 1])
            steps = [some_tally(chance, long, chance.choice((1, 2, 4, 9))) for _ in range(number % 41)]
            steps += chance.sample(steps, len(steps) // 2) + [(0,) * long] * chance.randint(0, 2)
            chance.shuffle(steps)
            check_same(self, marks_of(tuple(steps), most), tuple(sorted(sums_up_to(steps, most))))

    def test_few_steps_against_all_sums(self):
        chance = random.Random(3)
        for number in range(400):
            long = number % 4 + 1
            most = some_tally(chance, long, (90, 15, 8, 5)[long - 1])
            steps = tuple(some_tally(chance, long, 4) for _ in range(chance.randint(0, 4)))
            check_same(self, marks_of(steps, most), tuple(sorted(sums_up_to(steps, most))))

    def test_the_greatest_boxes(self):
        for one in SMALL:
            units = [tuple(int(place == put) for place in range(len(one))) for put in range(len(one))]
            check_same(self, marks_of(tuple(units), one), tuple(box(one)))
            check_same(self, marks_of((), one), ((0,) * len(one),))

    def test_forty_steps_in_a_great_box(self):
        steps = tuple((number // 7, number % 7 + 1) for number in range(40))
        expected = tuple(sorted(sums_up_to(steps, (59, 49))))
        check_same(self, marks_of(steps, (59, 49)), expected)
        check_same(self, marks_of(steps[::-1], (59, 49)), expected)

    def test_refused(self):
        for one in GREATER:
            for steps in ((), ((0,) * len(one),), ((1,) * len(one),), (one,)):
                check_refused(self, TooGreat, marks_of, steps, one)

    def test_great_steps_are_not_refused(self):
        check_same(self, marks_of(((GREAT,), (3000,), (2,)), (5,)), ((0,), (2,), (4,)))

    def test_arguments(self):
        check_arguments(self, marks_of, "steps", "most")


if __name__ == "__main__":
    unittest.main()
