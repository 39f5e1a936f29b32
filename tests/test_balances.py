"""Point 14: loops and leasts."""

import itertools
import random
import unittest

from helper import check_arguments, check_same, fits, leasts_gone_through, loops_gone_through, rows_below
from tallysets.balances import leasts_of, loops_of


def sum_of(values, row):
    return sum(value * count for value, count in zip(values, row, strict=True))


def some_values(seed, count, steepest, longs=(1, 2, 3, 4, 5)):
    chance = random.Random(seed)
    for number in range(count):
        yield tuple(chance.randint(-steepest, steepest) for _ in range(longs[number % len(longs)]))


class Rows(unittest.TestCase):
    def check_rows(self, values, total, rows):
        """Rows of numbers that come to the total, in order, each once, none at most another."""
        self.assertIs(type(rows), tuple)
        self.assertEqual(list(rows), sorted(set(rows)))
        for row in rows:
            self.assertIs(type(row), tuple)
            self.assertTrue(all(type(count) is int and count >= 0 for count in row))
            self.assertEqual(sum_of(values, row), total)
        for one, other in itertools.permutations(rows[:60], 2):
            self.assertFalse(fits(one, other))


class LoopsOf(Rows):
    def test_written_out(self):
        cases = (
            ((5,), ()),
            ((-8,), ()),
            ((0,), ((1,),)),
            ((0, 0), ((0, 1), (1, 0))),
            ((1, -1), ((1, 1),)),
            ((2, -3), ((3, 2),)),
            ((-8, 8), ((1, 1),)),
            ((7, -8), ((8, 7),)),
            ((4, -6), ((3, 2),)),
            ((1, 2, 3), ()),
            ((2, -1, -2), ((1, 0, 1), (1, 2, 0))),
            ((1, 1, -1), ((0, 1, 1), (1, 0, 1))),
            ((3, 0, -3), ((0, 1, 0), (1, 0, 1))),
            ((1, 2, -3), ((0, 3, 2), (1, 1, 1), (3, 0, 1))),
            ((0, 1, 0, -1, 0), ((0, 0, 0, 0, 1), (0, 0, 1, 0, 0), (0, 1, 0, 1, 0), (1, 0, 0, 0, 0))),
        )
        for values, expected in cases:
            check_same(self, loops_of(values), expected)

    def test_against_all_rows(self):
        for values in some_values(100, 250, 8):
            told = loops_of(values)
            check_same(self, told, loops_gone_through(values))
            self.check_rows(values, 0, told)

    def test_all_pairs(self):
        for values in itertools.product(range(-8, 9), repeat=2):
            check_same(self, loops_of(values), loops_gone_through(values))

    def test_steep_ones(self):
        for values in ((8, 7, -8, -7, 5), (8, 8, 8, -7, -7), (1, 1, 1, 1, -8), (-1, -1, -1, 8, 8), (8, 8, 8, 8, 8)):
            check_same(self, loops_of(values), loops_gone_through(values))

    def test_arguments(self):
        check_arguments(self, loops_of, "values")


class LeastsOf(Rows):
    def test_written_out(self):
        cases = (
            ((2,), 4, ((2,),)),
            ((2,), 3, ()),
            ((2,), -2, ()),
            ((-2,), -30, ((15,),)),
            ((0,), 0, ((0,),)),
            ((0,), 1, ()),
            ((5, -3), 0, ((0, 0),)),
            ((1, 2, 3, 4, 5), 0, ((0, 0, 0, 0, 0),)),
            ((3, -2), 1, ((1, 1),)),
            ((3, -2), -1, ((1, 2),)),
            ((2, -2), 1, ()),
            ((6, -4), 3, ()),
            ((1, 1), 2, ((0, 2), (1, 1), (2, 0))),
            ((1, 0), 2, ((2, 0),)),
            ((0, 0, 0), 30, ()),
            ((8, -7), 30, ((9, 6),)),
            ((8, -7), -30, ((5, 10),)),
            ((1, 3), 6, ((0, 2), (3, 1), (6, 0))),
            ((1, 3, -1), 2, ((0, 1, 1), (2, 0, 0))),
        )
        for values, total, expected in cases:
            check_same(self, leasts_of(values, total), expected)

    def test_against_all_rows(self):
        chance = random.Random(110)
        for values in some_values(111, 160, 8, longs=(1, 2, 3)):
            total = chance.randint(-30, 30)
            told = leasts_of(values, total)
            check_same(self, told, leasts_gone_through(values, total))
            self.check_rows(values, total, told)

    def test_more_values_against_all_rows(self):
        chance = random.Random(112)
        for values in some_values(113, 120, 8, longs=(4, 5)):
            total = chance.randint(-11, 11)
            told = leasts_of(values, total)
            check_same(self, told, leasts_gone_through(values, total))
            self.check_rows(values, total, told)

    def test_all_totals(self):
        for values in ((3, -2), (8, -6), (7, 5, -8), (-8, -3, 0), (2, 4, -6), (1, 1, -8), (0, 0, 5)):
            for total in range(-30, 31):
                check_same(self, leasts_of(values, total), leasts_gone_through(values, total))

    def test_noughts_alone_for_nought(self):
        for values in some_values(114, 60, 8):
            check_same(self, leasts_of(values, 0), ((0,) * len(values),))

    def test_five_values_far_totals(self):
        for values in ((8, 7, -8, -7, 5), (8, 8, -7, -7, 0), (4, -3, -6, -1, 7)):
            for total in (-30, -29, 29, 30):
                told = leasts_of(values, total)
                check_same(self, told, leasts_gone_through(values, total))
                self.check_rows(values, total, told)

    def test_arguments(self):
        check_arguments(self, leasts_of, "values", "total")


class Together(Rows):
    def made_of(self, row, leasts, loops):
        """Whether the row is one of the leasts and loops added up."""
        if not any(row) and not leasts:
            return True
        parts = leasts or loops
        for part in parts:
            if fits(part, row):
                rest = tuple(left - right for left, right in zip(row, part))
                if not any(rest) or self.made_of(rest, (), loops):
                    return True
        return False

    def test_each_row_is_a_least_and_loops(self):
        for values in some_values(120, 60, 8):
            loops = loops_of(values)
            leasts = {}
            for row in rows_below(len(values), 7):
                total = sum_of(values, row)
                if abs(total) <= 30:
                    if total not in leasts:
                        leasts[total] = leasts_of(values, total)
                    self.assertTrue(self.made_of(row, leasts[total], loops), (values, row))


if __name__ == "__main__":
    unittest.main()
