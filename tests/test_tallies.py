"""Points 2 and 4: numbers and tallies."""

import unittest

from helper import (
    GREAT, NO_PARTS, NO_TUPLES, check_arguments, check_refused, check_same, inserted, replaced,
    tallies_as_long,
)
from tallysets.errors import NoTally
from tallysets.tallies import added, at_most, is_tally, less, times, weight


class IsTally(unittest.TestCase):
    def test_one_to_four_numbers(self):
        for long in (1, 2, 3, 4):
            for one in tallies_as_long(long):
                self.assertIs(is_tally(one), True, one)

    def test_numbers_above_what_is_handed_in(self):
        self.assertIs(is_tally((10 ** 40, 0)), True)

    def test_none_and_more_than_four(self):
        self.assertIs(is_tally(()), False)
        for long in (5, 6, 7, 100):
            for number in (0, 1, GREAT):
                self.assertIs(is_tally((number,) * long), False)

    def test_a_wrong_part_at_any_place(self):
        for long in (1, 2, 3, 4):
            for number in (0, 1, GREAT):
                for place in range(long):
                    for part in NO_PARTS:
                        thing = replaced((number,) * long, place, part)
                        self.assertIs(is_tally(thing), False, thing)

    def test_a_wrong_part_beside_a_tally(self):
        for place in range(3):
            for part in NO_PARTS:
                thing = inserted((0, 2), place, part)
                self.assertIs(is_tally(thing), False, thing)

    def test_truths_are_no_numbers(self):
        for thing in ((True,), (False,), (True, False), (1, True), (False, 0), (0, 1, True, 2)):
            self.assertIs(is_tally(thing), False, thing)

    def test_a_list_is_no_tally(self):
        for long in (1, 2, 3, 4):
            for one in tallies_as_long(long):
                self.assertIs(is_tally(list(one)), False, one)

    def test_other_things(self):
        for thing in NO_TUPLES:
            self.assertIs(is_tally(thing), False, thing)

    def test_arguments(self):
        check_arguments(self, is_tally, "thing")


class Added(unittest.TestCase):
    def test_written_out(self):
        cases = (
            ((0,), (0,), (0,)),
            ((3,), (4,), (7,)),
            ((GREAT,), (GREAT,), (2 * GREAT,)),
            ((1, 2), (3, 0), (4, 2)),
            ((0, GREAT), (5, 1), (5, GREAT + 1)),
            ((1, 2, 3), (10, 20, 30), (11, 22, 33)),
            ((0, 0, 0), (4, 0, 6), (4, 0, 6)),
            ((1, 2, 3, 4), (40, 30, 20, 10), (41, 32, 23, 14)),
            ((GREAT, 0, 0, 1), (1, 0, GREAT, GREAT), (GREAT + 1, 0, GREAT, GREAT + 1)),
        )
        for one, other, expected in cases:
            check_same(self, added(one, other), expected)
            check_same(self, added(other, one), expected)

    def test_number_by_number(self):
        for long in (1, 2, 3):
            for one in tallies_as_long(long):
                for other in tallies_as_long(long):
                    told = added(one, other)
                    self.assertIs(is_tally(told), True)
                    self.assertEqual(len(told), long)
                    for place in range(long):
                        self.assertEqual(told[place], one[place] + other[place])

    def test_arguments(self):
        check_arguments(self, added, "one", "other")


class Times(unittest.TestCase):
    def test_written_out(self):
        cases = (
            (0, (7,), (0,)),
            (1, (7,), (7,)),
            (3, (7,), (21,)),
            (5, (0,), (0,)),
            (0, (1, GREAT), (0, 0)),
            (2, (1, GREAT), (2, 2 * GREAT)),
            (4, (0, 1, 2), (0, 4, 8)),
            (0, (1, 2, 3, 4), (0, 0, 0, 0)),
            (1, (1, 2, 3, 4), (1, 2, 3, 4)),
            (10, (1, 0, 3, 4), (10, 0, 30, 40)),
            (GREAT, (1, 0, 2, GREAT), (GREAT, 0, 2 * GREAT, GREAT ** 2)),
        )
        for count, one, expected in cases:
            check_same(self, times(count, one), expected)

    def test_as_often_added(self):
        for long in (1, 2, 3, 4):
            for one in tallies_as_long(long):
                summed = (0,) * long
                for count in range(6):
                    check_same(self, times(count, one), summed)
                    summed = added(summed, one)

    def test_arguments(self):
        check_arguments(self, times, "count", "one")


class AtMost(unittest.TestCase):
    def test_written_out(self):
        # The one, the other, whether the one is at most the other, and the other way round.
        cases = (
            ((0,), (0,), True, True),
            ((2,), (3,), True, False),
            ((9,), (10,), True, False),
            ((GREAT - 1,), (GREAT,), True, False),
            ((1, 2), (1, 2), True, True),
            ((1, 2), (1, 3), True, False),
            ((1, 2), (2, 2), True, False),
            ((1, 2), (2, 1), False, False),
            ((0, GREAT), (1, 0), False, False),
            ((0, 0, 0), (0, 0, 1), True, False),
            ((1, 0, 0), (0, 5, 5), False, False),
            ((0, 6, 0), (5, 5, 5), False, False),
            ((5, 5, 6), (5, 5, 5), False, True),
            ((1, 2, 3, 4), (1, 2, 3, 4), True, True),
            ((1, 2, 3, 4), (4, 3, 3, 4), True, False),
            ((1, 2, 3, 4), (4, 3, 2, 4), False, False),
            ((1, 2, 3, 4), (GREAT, GREAT, GREAT, 3), False, False),
        )
        for one, other, ahead, back in cases:
            self.assertIs(at_most(one, other), ahead, (one, other))
            self.assertIs(at_most(other, one), back, (other, one))

    def test_just_what_can_be_added_to(self):
        for long in (1, 2, 3, 4):
            for one in tallies_as_long(long):
                for more in ((0,) * long, (1,) * long, one):
                    self.assertIs(at_most(one, added(one, more)), True)

    def test_one_number_above_at_any_place(self):
        for long in (1, 2, 3, 4):
            for one in tallies_as_long(long):
                for place in range(long):
                    other = replaced(added(one, (5,) * long), place, one[place])
                    above = replaced(one, place, one[place] + 1)
                    self.assertIs(at_most(one, other), True)
                    self.assertIs(at_most(above, other), False)

    def test_arguments(self):
        check_arguments(self, at_most, "one", "other")


class Less(unittest.TestCase):
    def test_written_out(self):
        cases = (
            ((0,), (0,), (0,)),
            ((7,), (3,), (4,)),
            ((GREAT,), (1,), (GREAT - 1,)),
            ((5, 2), (5, 0), (0, 2)),
            ((GREAT, GREAT), (0, GREAT), (GREAT, 0)),
            ((3, 4, 5), (1, 4, 2), (2, 0, 3)),
            ((9, 8, 7, 6), (1, 2, 3, 4), (8, 6, 4, 2)),
        )
        for one, other, expected in cases:
            check_same(self, less(one, other), expected)

    def test_a_tally_less_itself(self):
        for long in (1, 2, 3, 4):
            for one in tallies_as_long(long):
                check_same(self, less(one, one), (0,) * long)
                check_same(self, less(one, (0,) * long), one)

    def test_refused_just_where_it_is_not_at_most(self):
        for long in (1, 2, 3):
            for one in tallies_as_long(long):
                for other in tallies_as_long(long):
                    if all(other[place] <= one[place] for place in range(long)):
                        self.assertEqual(added(less(one, other), other), one)
                    else:
                        check_refused(self, NoTally, less, one, other)

    def test_refused_for_one_number_at_any_place(self):
        for long in (1, 2, 3, 4):
            for number in (0, 1, 6, GREAT):
                for place in range(long):
                    one = replaced((GREAT,) * long, place, number)
                    other = replaced((0,) * long, place, number + 1)
                    check_refused(self, NoTally, less, one, other)

    def test_arguments(self):
        check_arguments(self, less, "one", "other")


class Weight(unittest.TestCase):
    def test_written_out(self):
        cases = (
            ((0,), (GREAT,), 0),
            ((1,), (7,), 7),
            ((-1,), (7,), -7),
            ((-3,), (0,), 0),
            ((2, 5), (10, 100), 520),
            ((2, -5), (10, 100), -480),
            ((1, -1), (GREAT, GREAT), 0),
            ((-GREAT, 0), (1, GREAT), -GREAT),
            ((1, 0, -1), (4, 9, 6), -2),
            ((3, -2, 1), (0, 0, 0), 0),
            ((1, 10, 100, 1000), (4, 3, 2, 1), 1234),
            ((-8, 8, -1, 0), (1, 2, 3, 4), 5),
            ((-8, 8, -1, 0), (0, 0, GREAT, GREAT), -GREAT),
        )
        for weights, one, expected in cases:
            check_same(self, weight(weights, one), expected)

    def test_one_weight_tells_one_number(self):
        for long in (1, 2, 3, 4):
            for one in tallies_as_long(long):
                check_same(self, weight((0,) * long, one), 0)
                for place in range(long):
                    for number in (-GREAT, -2, -1, 1, 2, GREAT):
                        weights = replaced((0,) * long, place, number)
                        check_same(self, weight(weights, one), number * one[place])

    def test_weights_of_sums_are_sums_of_weights(self):
        for one in tallies_as_long(3):
            for other in tallies_as_long(3):
                for weights in ((1, -2, 3), (-7, 0, 5)):
                    parts = weight(weights, one) + weight(weights, other)
                    self.assertEqual(weight(weights, added(one, other)), parts)

    def test_arguments(self):
        check_arguments(self, weight, "weights", "one")


if __name__ == "__main__":
    unittest.main()
