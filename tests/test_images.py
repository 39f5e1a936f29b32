"""Point 12: sets mapped, and letters left out."""

import random
import unittest

from helper import GREAT, check_arguments, check_same, come_to, some_sets, some_tally, tallies_up_to
from tallysets.fans import is_set
from tallysets.images import left_out, mapped

ONE = (((2, 0), ((0, 3), (1, 1))), ((0, 4), ()))


def image(one, row):
    return come_to((0,) * len(row[0]), one, row)


def without(one, place):
    return tuple(part for other, part in enumerate(one) if other != place)


def fan_changed(fan, change):
    steps = {change(step) for step in fan[1]}
    return (change(fan[0]), tuple(sorted(step for step in steps if any(step))))


class Mapped(unittest.TestCase):
    def test_written_out(self):
        cases = (
            (((1, 0), (0, 1)), ONE),
            (((0, 1), (1, 0)), (((0, 2), ((1, 1), (3, 0))), ((4, 0), ()))),
            (((1,), (1,)), (((2,), ((2,), (3,))), ((4,), ()))),
            (((3,), (1,)), (((6,), ((3,), (4,))), ((4,), ()))),
            (((2,), (1,)), (((4,), ((3,),)), ((4,), ()))),
            (((1,), (0,)), (((2,), ((1,),)), ((0,), ()))),
            (((0,), (0,)), (((0,), ()), ((0,), ()))),
            (((1, 2, 3), (0, 0, 5)), (((2, 4, 6), ((0, 0, 15), (1, 2, 8))), ((0, 0, 20), ()))),
            (((1, 0, 0, 9), (0, GREAT, 0, 0)),
             (((2, 0, 0, 18), ((0, 3 * GREAT, 0, 0), (1, GREAT, 0, 9))), ((0, 4 * GREAT, 0, 0), ()))),
        )
        for row, expected in cases:
            check_same(self, mapped(ONE, row), expected)

    def test_great_numbers(self):
        check_same(self, mapped((((GREAT, 1), ()),), ((GREAT,), (2,))), (((GREAT ** 2 + 2,), ()),))

    def test_no_fans(self):
        for row in (((1,),), ((1, 0), (0, 1)), ((1, 2, 3, 4),) * 4):
            check_same(self, mapped((), row), ())

    def test_fan_by_fan(self):
        chance = random.Random(60)
        for long in (1, 2, 3, 4):
            for some in some_sets(60 + long, 60, most_steps=6, longs=(long,)):
                other = chance.randint(1, 4)
                row = tuple(some_tally(chance, other, chance.choice((1, 1, 3))) for _ in range(long))
                told = mapped(some, row)
                check_same(self, told, tuple(fan_changed(fan, lambda one: image(one, row)) for fan in some))
                self.assertIs(is_set(told), True)

    def test_just_the_images(self):
        # Each row has a number above 0, so an image is at least as great as what it comes of.
        cases = ((2, ((1, 1), (1, 0))), (2, ((2,), (3,))), (2, ((0, 0, 1), (0, 2, 0))), (1, ((1, 2, 1),)),
                 (3, ((1, 0), (0, 1), (1, 1))))
        for long, row in cases:
            for some in some_sets(70 + long, 40, longs=(long,)):
                images = {image(one, row) for one in tallies_up_to(some, (10,) * long)}
                most = (10,) * len(row[0])
                told = tallies_up_to(mapped(some, row), most)
                self.assertEqual(told, {one for one in images if max(one) <= 10})

    def test_arguments(self):
        check_arguments(self, mapped, "some", "row")


class LeftOut(unittest.TestCase):
    def test_written_out(self):
        check_same(self, left_out(ONE, 0), (((0,), ((1,), (3,))), ((4,), ())))
        check_same(self, left_out(ONE, 1), (((2,), ((1,),)), ((0,), ())))
        some = (((1, 2, 3), ((0, 0, 7), (0, 5, 0), (1, 5, 0), (2, 0, 7))),)
        check_same(self, left_out(some, 0), (((2, 3), ((0, 7), (5, 0))),))
        check_same(self, left_out(some, 1), (((1, 3), ((0, 7), (1, 0), (2, 7))),))
        check_same(self, left_out(some, 2), (((1, 2), ((0, 5), (1, 5), (2, 0))),))
        check_same(self, left_out((((1, 2, 3, GREAT), ((0, 9, 0, 0), (1, 0, 0, 0))),), 1),
                   (((1, 3, GREAT), ((1, 0, 0),)),))

    def test_no_fans(self):
        check_same(self, left_out((), 0), ())
        check_same(self, left_out((), 3), ())

    def test_fan_by_fan(self):
        for long in (2, 3, 4):
            for some in some_sets(80 + long, 60, most_steps=8, top=2, longs=(long,)):
                for place in range(long):
                    told = left_out(some, place)
                    check_same(self, told, tuple(fan_changed(fan, lambda one: without(one, place)) for fan in some))
                    self.assertIs(is_set(told), True)

    def test_as_mapped_without_that_letter(self):
        for long in (2, 3, 4):
            for some in some_sets(90 + long, 40, longs=(long,)):
                for place in range(long):
                    units = [tuple(int(at == put) for at in range(long)) for put in range(long)]
                    row = tuple(without(unit, place) for unit in units)
                    check_same(self, left_out(some, place), mapped(some, row))

    def test_arguments(self):
        check_arguments(self, left_out, "some", "place")


if __name__ == "__main__":
    unittest.main()
