"""Points 2 and 5: fans and sets."""

import itertools
import unittest

from helper import (
    GREAT, NO_PARTS, NO_TUPLES, check_arguments, check_refused, check_same, inserted, replaced,
)
from tallysets.errors import NoFan
from tallysets.fans import fan_of, is_set

# For each length a begin, and steps as they stand in a fan.
FANS = (
    ((5,), ((1,), (2,), (10,), (GREAT,))),
    ((2, 0), ((0, 3), (0, GREAT), (1, 1), (2, 0))),
    ((0, 0, 0), ((0, 0, 1), (0, 2, 0), (0, 10, 0), (3, 0, 0))),
    ((1, GREAT, 0, 4), ((0, 0, 0, 7), (0, 1, 2, 3), (1, 0, 0, 0), (1, 0, 0, 1))),
)

# A set in which each fan has steps, so that each can be spoilt at each place.
PLAIN = (
    ((2, 0), ((0, 1), (0, 3), (1, 1))),
    ((0, 4), ((1, 0), (2, 0), (GREAT, GREAT))),
    ((0, 0), ((0, 2), (2, 2), (10, 0))),
)

# Things that are no tallies, whatever they stand beside.
NO_TALLIES = (
    NO_TUPLES
    + tuple((part,) for part in NO_PARTS)
    + tuple((0, part) for part in NO_PARTS)
    + tuple((part, 1) for part in NO_PARTS)
    + ((), (0,) * 5, (1,) * 5, ((1, 2), ()), ((1, 2),), ((1, 2), (3, 4)))
)


def as_long(long):
    return (0,) * long


class FanOf(unittest.TestCase):
    def check(self, begin, steps, expected):
        check_same(self, fan_of(begin, tuple(steps)), (begin, expected))
        check_same(self, fan_of(begin, list(steps)), (begin, expected))

    def test_no_steps(self):
        for begin, steps in FANS:
            self.check(begin, (), ())

    def test_in_any_order(self):
        for begin, steps in FANS:
            for shuffled in itertools.permutations(steps):
                self.check(begin, shuffled, steps)

    def test_each_once(self):
        for begin, steps in FANS:
            self.check(begin, steps + steps, steps)
            self.check(begin, steps[::-1] + steps, steps)
            for step in steps:
                self.check(begin, (step, step, step), (step,))
                for place in range(len(steps) + 1):
                    self.check(begin, inserted(steps, place, step), steps)

    def test_noughts_left_out(self):
        for begin, steps in FANS:
            noughts = as_long(len(begin))
            self.check(begin, (noughts,), ())
            self.check(begin, (noughts, noughts), ())
            for place in range(len(steps) + 1):
                self.check(begin, inserted(steps, place, noughts), steps)
                self.check(begin, inserted(steps + (noughts,), place, noughts), steps)

    def test_a_step_with_one_number_above_nought_stays(self):
        for long in (1, 2, 3, 4):
            for place in range(long):
                step = replaced(as_long(long), place, 1)
                self.check(as_long(long), (step, as_long(long)), (step,))

    def test_ordered_by_numbers_from_the_first_on(self):
        self.check((0,), ((10,), (9,), (100,)), ((9,), (10,), (100,)))
        self.check((0, 0), ((1, 0), (0, GREAT), (0, 2)), ((0, 2), (0, GREAT), (1, 0)))

    def test_the_begin_may_be_among_the_steps(self):
        self.check((1, 1), ((2, 0), (1, 1)), ((1, 1), (2, 0)))

    def test_many_steps(self):
        steps = tuple((number // 7, number % 7 + 1) for number in range(40))
        self.check((0, 0), steps[::-1], steps)

    def test_a_list_stays_as_it_was(self):
        steps = [(2, 0), (0, 0), (1, 5), (2, 0)]
        fan = fan_of((1, 1), steps)
        self.assertEqual(steps, [(2, 0), (0, 0), (1, 5), (2, 0)])
        steps.append((9, 9))
        self.assertEqual(fan, ((1, 1), ((1, 5), (2, 0))))

    def test_a_list_stays_as_it_was_behind_a_refusal(self):
        steps = [(2, 0), (0, 0), [1, 5], (2, 0)]
        check_refused(self, NoFan, fan_of, (1, 1), steps)
        self.assertEqual(steps, [(2, 0), (0, 0), [1, 5], (2, 0)])

    def test_is_a_fan_of_a_set(self):
        for begin, steps in FANS:
            self.assertIs(is_set((fan_of(begin, steps[::-1] + (as_long(len(begin)),)),)), True)

    def test_arguments(self):
        check_arguments(self, fan_of, "begin", "steps")


class FanOfRefused(unittest.TestCase):
    def check(self, begin, steps):
        check_refused(self, NoFan, fan_of, begin, tuple(steps))
        check_refused(self, NoFan, fan_of, begin, list(steps))

    def test_a_begin_that_is_no_tally(self):
        for thing in NO_TALLIES:
            for steps in ((), ((1,),), ((1, 2),), ((0, 0), (1, 2))):
                self.check(thing, steps)

    def test_a_begin_of_none_or_five_with_steps_as_long(self):
        self.check((), ((),))
        self.check((1,) * 5, ((1,) * 5,))

    def test_a_list_is_no_begin(self):
        for begin, steps in FANS:
            self.check(list(begin), ())
            self.check(list(begin), steps)

    def test_a_begin_with_a_wrong_part_at_any_place(self):
        for begin, steps in FANS:
            for place in range(len(begin)):
                for part in NO_PARTS:
                    self.check(replaced(begin, place, part), steps)

    def test_a_step_that_is_no_tally_at_any_place(self):
        for begin, steps in FANS:
            for thing in NO_TALLIES:
                self.check(begin, (thing,))
                for place in range(len(steps) + 1):
                    self.check(begin, inserted(steps, place, thing))

    def test_a_step_with_a_wrong_part_at_any_place(self):
        for begin, steps in FANS:
            for number, step in enumerate(steps):
                for place in range(len(step)):
                    for part in NO_PARTS:
                        wrong = replaced(step, place, part)
                        self.check(begin, replaced(steps, number, wrong))

    def test_a_list_is_no_step(self):
        for begin, steps in FANS:
            for number, step in enumerate(steps):
                self.check(begin, replaced(steps, number, list(step)))

    def test_a_step_of_another_length_at_any_place(self):
        for begin, steps in FANS:
            for long in (1, 2, 3, 4, 5):
                if long != len(begin):
                    # Noughts, too: they are looked at before they are left out.
                    for thing in (as_long(long), (1,) * long):
                        self.check(begin, (thing,))
                        for place in range(len(steps) + 1):
                            self.check(begin, inserted(steps, place, thing))

    def test_all_steps_of_another_length_than_the_begin(self):
        self.check((1,), ((1, 2), (3, 4)))
        self.check((1, 2, 3), ((1, 2), (3, 4)))


class IsSet(unittest.TestCase):
    def spoilt(self, fan):
        """With this thing in the place of a fan, or put in beside fans, there is no set."""
        self.assertIs(is_set((fan,)), False, fan)
        for place in range(len(PLAIN) + 1):
            self.assertIs(is_set(inserted(PLAIN, place, fan)), False, fan)
        for place in range(len(PLAIN)):
            self.assertIs(is_set(replaced(PLAIN, place, fan)), False, fan)

    def test_no_fans(self):
        self.assertIs(is_set(()), True)

    def test_one_fan(self):
        for fan in FANS:
            self.assertIs(is_set((fan,)), True)
            self.assertIs(is_set(((fan[0], ()),)), True)
            for step in fan[1]:
                self.assertIs(is_set(((fan[0], (step,)),)), True)

    def test_several_fans(self):
        for chosen in itertools.permutations(PLAIN):
            self.assertIs(is_set(chosen), True)
        for fan in FANS:
            self.assertIs(is_set((fan, (as_long(len(fan[0])), ()), fan)), True)

    def test_fans_may_stand_twice_and_in_any_order(self):
        self.assertIs(is_set(PLAIN + PLAIN[::-1]), True)

    def test_many_fans_with_many_steps(self):
        steps = tuple((number // 7, number % 7 + 1, GREAT) for number in range(40))
        self.assertIs(is_set(tuple(((0, number, 1), steps) for number in range(100))), True)

    def test_the_begin_may_be_noughts_and_among_the_steps(self):
        self.assertIs(is_set((((0, 0), ()), ((1, 1), ((1, 1),)))), True)

    def test_steps_out_of_order(self):
        for begin, steps in PLAIN:
            for shuffled in itertools.permutations(steps):
                if shuffled != steps:
                    self.spoilt((begin, shuffled))
        for begin, steps in FANS:
            for place in range(len(steps) - 1):
                swapped = steps[:place] + (steps[place + 1], steps[place]) + steps[place + 2:]
                self.assertIs(is_set(((begin, swapped),)), False)

    def test_a_step_twice(self):
        for begin, steps in PLAIN:
            for place, step in enumerate(steps):
                self.spoilt((begin, inserted(steps, place, step)))
                self.spoilt((begin, (step, step)))

    def test_a_step_all_noughts(self):
        for begin, steps in PLAIN:
            self.spoilt((begin, ((0, 0),)))
            for place in range(len(steps) + 1):
                self.spoilt((begin, inserted(steps, place, (0, 0))))
        for long in (1, 2, 3, 4):
            self.assertIs(is_set(((as_long(long), (as_long(long),)),)), False)

    def test_a_step_of_another_length(self):
        for begin, steps in PLAIN:
            for wrong in ((1,), (20,), (0, 2, 0), (20, 0, 0), (0, 0, 0, 1), (0, 0, 0, 0, 1)):
                self.spoilt((begin, (wrong,)))
                for place in range(len(steps) + 1):
                    self.spoilt((begin, inserted(steps, place, wrong)))
                    self.spoilt((begin, tuple(sorted(inserted(steps, place, wrong)))))

    def test_all_steps_of_another_length_than_the_begin(self):
        self.assertIs(is_set((((1,), ((1, 2), (3, 4))),)), False)
        self.assertIs(is_set((((1, 2, 3), ((1, 2), (3, 4))),)), False)

    def test_a_fan_of_another_length(self):
        for one in FANS:
            for other in FANS:
                same = len(one[0]) == len(other[0])
                for steps in (other[1], ()):
                    wrong = (other[0], steps)
                    self.assertIs(is_set((one, wrong)), same)
                    self.assertIs(is_set((wrong, one)), same)
                    for place in range(4):
                        self.assertIs(is_set(inserted((one,) * 3, place, wrong)), same)

    def test_a_list_for_a_tuple(self):
        self.assertIs(is_set([]), False)
        self.assertIs(is_set(list(PLAIN)), False)
        for begin, steps in PLAIN:
            self.spoilt([begin, steps])
            self.spoilt((list(begin), steps))
            self.spoilt((list(begin), ()))
            self.spoilt((begin, list(steps)))
            self.spoilt((begin, []))
            for place, step in enumerate(steps):
                self.spoilt((begin, replaced(steps, place, list(step))))

    def test_a_fan_that_is_no_pair(self):
        for begin, steps in PLAIN:
            for wrong in ((), (begin,), (steps,), begin, steps, (begin, steps, ()),
                          (begin, steps, steps), (begin,) + steps, (steps, begin)):
                self.spoilt(wrong)
        for thing in NO_TUPLES:
            self.spoilt(thing)

    def test_a_begin_that_is_no_tally(self):
        for begin, steps in PLAIN:
            for thing in NO_TALLIES:
                self.spoilt((thing, steps))
                self.spoilt((thing, ()))
            for place in range(2):
                for part in NO_PARTS:
                    self.spoilt((replaced(begin, place, part), steps))

    def test_steps_that_are_no_tuple_of_tallies(self):
        for thing in NO_TUPLES + ((1,), (1, 2), (0, 0)):
            self.spoilt(((1, 2), thing))

    def test_a_step_that_is_no_tally(self):
        for begin, steps in PLAIN:
            for thing in NO_TALLIES:
                self.spoilt((begin, (thing,)))
                for place in range(len(steps)):
                    self.spoilt((begin, replaced(steps, place, thing)))
                    self.spoilt((begin, inserted(steps, place, thing)))

    def test_a_step_with_a_wrong_part_at_any_place(self):
        for begin, steps in PLAIN:
            for number, step in enumerate(steps):
                for place in range(2):
                    for part in NO_PARTS:
                        wrong = replaced(step, place, part)
                        self.spoilt((begin, replaced(steps, number, wrong)))

    def test_truths_are_no_numbers(self):
        self.assertIs(is_set((((True, 0), ()),)), False)
        self.assertIs(is_set((((1, False), ()),)), False)
        self.assertIs(is_set((((1, 0), ((0, True),)),)), False)
        self.assertIs(is_set((((1, 0), ((False, 1),)),)), False)

    def test_a_fan_by_itself(self):
        for fan in FANS + PLAIN:
            self.assertIs(is_set(fan), False)
            self.assertIs(is_set((fan[0], ())), False)
            self.assertIs(is_set(fan[0]), False)
            self.assertIs(is_set(fan[1]), False)

    def test_a_set_within_a_tuple(self):
        self.assertIs(is_set((PLAIN,)), False)
        self.assertIs(is_set(((),)), False)

    def test_other_things(self):
        for thing in NO_TUPLES:
            self.assertIs(is_set(thing), False, thing)

    def test_arguments(self):
        check_arguments(self, is_set, "thing")


if __name__ == "__main__":
    unittest.main()
