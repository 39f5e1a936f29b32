"""Point 3: what the program promises over the whole."""

import itertools
import random
import unittest

from helper import (
    check_same, come_to, fits, is_led_over, plus, some_grammar, sums_up_to, tallies_of_grammar, tallies_up_to,
    word_told,
)
from tallysets.cuts import cut_by_rest, cut_by_sum
from tallysets.errors import TooGreat
from tallysets.fans import is_set
from tallysets.fews import few, missing
from tallysets.grammars import read_grammar, tally_of
from tallysets.images import left_out, mapped
from tallysets.languages import set_of, tree_for
from tallysets.leads import led
from tallysets.marks import is_small
from tallysets.rooms import grammar_of, walk_for
from tallysets.settexts import read_set, show_set
from tallysets.sums import joined, repeated, summed
from tallysets.trees import sign_of, word_of
from tallysets.withins import table_of, within

MOST = (7, 7)

GRAMMARS = ("2;A=aAb;A=;A=BB;B=ba", "2;A=aB;B=bA;A=;B=aab", "2;A=AA;A=ab;A=abb", "2;A=bBB;B=a;B=aaA", "2;B=a",
            "2;A=aaA;A=B;B=bbbB;B=a", "2;A=abA;A=BC;B=aB;B=b;C=bb")
ROOMS = (
    (2, ((0, "a", 1), (1, "b", 0), (0, "b", 0)), (1,)),
    (2, ((0, "a", 1), (1, "a", 2), (2, "b", 0), (2, "b", 2)), (0, 2)),
    (2, ((0, "a", 0), (0, "b", 1)), ()),
    (2, (), (0,)),
)
TEXTS = ("-", "2,0+0,3+1,1 | 0,4", "0,0", "1,0+1,0 | 0,1+0,1", "0,1+1,2+2,1", "3,3+0,2+2,0+2,2 | 3,5+2,0")


def word_walked(rooms, walk):
    return "".join(rooms[1][number][1] for number in walk)


def some_made(chance, made):
    """Another set of sets at hand, and what it has up to MOST, by what these have."""
    one, ones = chance.choice(made)
    other, others = chance.choice(made)
    both = ones | others
    weights = (chance.randint(-2, 2), chance.randint(-2, 2))
    number = chance.randint(0, 3)
    ways = (
        lambda: (joined(one, other), both),
        lambda: (summed(one, other), {plus(left, right) for left in ones for right in others}),
        lambda: (repeated(one, 2), sums_up_to(ones, MOST)),
        lambda: (mapped(one, ((0, 1), (1, 0))), {(right, left) for left, right in ones}),
        lambda: (mapped(one, ((1, 1), (0, 2))), {(left, left + 2 * right) for left, right in ones}),
        lambda: (cut_by_rest(one, weights, 4, number),
                 {each for each in ones if (weights[0] * each[0] + weights[1] * each[1]) % 4 == number}),
        lambda: (cut_by_sum(one, weights, number),
                 {each for each in ones if weights[0] * each[0] + weights[1] * each[1] == number}),
        lambda: (few(one), ones),
        lambda: (read_set(show_set(one)), ones),
    )
    some, tallies = chance.choice(ways)()
    return some, {each for each in tallies if fits(each, MOST)}


def sets_at_hand():
    """Sets that come of texts, grammars and rooms, with what they have up to MOST."""
    made = [(read_set(text), tallies_up_to(read_set(text), MOST)) for text in TEXTS]
    for grammar in [read_grammar(text) for text in GRAMMARS] + [grammar_of(rooms) for rooms in ROOMS]:
        made.append((set_of(grammar), tallies_of_grammar(grammar, MOST)["A"]))
    return made


def sets_put_together(seed, count):
    """So many further sets, made of those at hand and of one another."""
    chance = random.Random(seed)
    made = sets_at_hand()
    told = []
    while len(told) < count:
        try:
            some, tallies = some_made(chance, made)
        except TooGreat:
            continue
        told.append((some, tallies))
        if len(some) <= 8 and sum(len(steps) for begin, steps in some) <= 20:
            made.append((some, tallies))
    return told


class Whole(unittest.TestCase):
    def test_sets_have_just_the_tallies_they_ought_to(self):
        for some, tallies in sets_at_hand() + sets_put_together(270, 500):
            self.assertIs(is_set(some), True)
            check_same(self, table_of(some, MOST), tuple(sorted(tallies)))

    def test_what_is_within_is_told_exactly(self):
        for some, tallies in sets_at_hand() + sets_put_together(271, 60):
            for one in itertools.product(range(6), repeat=2):
                told = within(some, one)
                self.assertIs(told is not None, one in tallies)
                if told is not None:
                    begin, steps = some[told[0]]
                    self.assertEqual(come_to(begin, told[1], steps), one)

    def test_led_over_and_made_few(self):
        seen = 0
        for some, tallies in sets_at_hand() + sets_put_together(272, 150):
            small = all(is_small(one) for begin, steps in some for one in (begin,) + steps)
            if small and len(some) <= 12:
                seen += 1
                told = few(some)
                check_same(self, few(told), told)
                self.assertIsNone(missing(some, told, MOST))
                self.assertIsNone(missing(told, some, MOST))
                self.assertIsNotNone(led(told, some))
                for fan, (number, paper) in zip(some, led(some, told)):
                    self.assertTrue(is_led_over(fan, told[number]))
                for one, other in itertools.permutations(told, 2):
                    self.assertFalse(is_led_over(one, other))
                for begin, steps in told:
                    for step in steps:
                        self.assertNotIn(step, sums_up_to([other for other in steps if other != step], step))
        self.assertGreater(seen, 100)

    def test_letters_left_out(self):
        for some, tallies in sets_at_hand() + sets_put_together(273, 60):
            for place in (0, 1):
                few_letters = left_out(some, place)
                self.assertIs(is_set(few_letters), True)
                ends = {(one[1 - place],) for one in tallies}
                self.assertLessEqual(ends, tallies_up_to(few_letters, (7,)))

    def test_trees_and_sets_of_grammars(self):
        chance = random.Random(274)
        grammars = [read_grammar(text) for text in GRAMMARS] + [some_grammar(chance) for _ in range(80)]
        for grammar in grammars:
            some = set_of(grammar)
            for _ in range(8):
                word = [chance.randrange(grammar[0]) for _ in range(chance.randint(0, 12))]
                one = tuple(word.count(place) for place in range(grammar[0]))
                tree = tree_for(grammar, one)
                self.assertIs(tree is not None, within(some, one) is not None)
                if tree is not None:
                    check_same(self, sign_of(grammar, tree), "A")
                    check_same(self, word_of(grammar, tree), word_told(grammar, tree))
                    check_same(self, tally_of(grammar[0], word_of(grammar, tree)), one)

    def test_walks_and_sets_of_rooms(self):
        for rooms in ROOMS:
            some = set_of(grammar_of(rooms))
            for one in itertools.product(range(5), repeat=2):
                walk = walk_for(rooms, one)
                self.assertIs(walk is not None, within(some, one) is not None)
                if walk is not None:
                    check_same(self, tally_of(2, word_walked(rooms, walk)), one)

    def test_tallies_of_a_set_have_trees(self):
        for text in GRAMMARS:
            grammar = read_grammar(text)
            for one in table_of(set_of(grammar), (5, 7)):
                self.assertIsNotNone(tree_for(grammar, one))


if __name__ == "__main__":
    unittest.main()
