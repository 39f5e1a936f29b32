"""Points 27 and 28: rooms, their grammars and their walks."""

import random
import unittest

from helper import GREAT, box, check_arguments, check_refused, check_same, fits, plus, tallies_up_to
from tallysets.errors import TooGreat
from tallysets.grammars import read_grammar, show_grammar, tally_of
from tallysets.languages import set_of
from tallysets.rooms import grammar_of, walk_for

TOPS = {1: (12,), 2: (5, 6), 3: (3, 4, 3), 4: (2, 2, 3, 3)}

WRITTEN = (
    ((2, ((0, "a", 1), (1, "b", 0), (0, "b", 0)), (1,)), (("A", "aB"), ("B", "bA"), ("A", "bA"), ("B", ""))),
    ((1, ((0, "a", 0),), (0,)), (("A", "aA"), ("A", ""))),
    ((1, (), (0,)), (("A", ""),)),
    ((3, (), (2, 0, 1)), (("C", ""), ("A", ""), ("B", ""))),
    ((4, ((0, "d", 2),), ()), (("A", "dC"),)),
    ((4, ((0, "d", 2), (0, "d", 2), (2, "c", 1), (2, "c", 2)), (1, 2)),
     (("A", "dC"), ("A", "dC"), ("C", "cB"), ("C", "cC"), ("B", ""), ("C", ""))),
    ((2, ((1, "a", 2),) * 8, ()), (("B", "aC"),) * 8),
)


def some_rooms(chance):
    many = chance.randint(1, 4)
    ends = tuple(chance.sample(range(3), chance.choice((0, 1, 1, 1, 2, 3))))
    top = chance.randint(1, 3)
    count = chance.randint(0 if ends else 1, 8 - len(ends))
    doors = tuple((chance.randrange(top), chance.choice("abcd"[:many]), chance.randrange(top)) for _ in range(count))
    return (many, doors, ends)


def all_rooms():
    yield from (rooms for rooms, rules in WRITTEN)
    chance = random.Random(260)
    for _ in range(250):
        yield some_rooms(chance)


def walked(rooms, most):
    """The tallies up to most of all walks, gone through."""
    many, doors, ends = rooms
    reached = {(0, (0,) * many)}
    waiting = list(reached)
    while waiting:
        room, one = waiting.pop()
        for first, letter, second in doors:
            further = (second, plus(one, tuple(int(letter == each) for each in "abcd"[:many])))
            if first == room and fits(further[1], most) and further not in reached:
                reached.add(further)
                waiting.append(further)
    return {one for room, one in reached if room in ends}


class GrammarOf(unittest.TestCase):
    def test_written_out(self):
        for rooms, rules in WRITTEN:
            check_same(self, grammar_of(rooms), (rooms[0], rules))

    def test_rule_by_rule(self):
        for rooms in all_rooms():
            many, doors, ends = rooms
            rules = [("ABC"[first], letter + "ABC"[second]) for first, letter, second in doors]
            rules += [("ABC"[room], "") for room in ends]
            check_same(self, grammar_of(rooms), (many, tuple(rules)))
            check_same(self, read_grammar(show_grammar(grammar_of(rooms))), grammar_of(rooms))

    def test_its_set_has_just_the_tallies_of_walks(self):
        for rooms in all_rooms():
            most = TOPS[rooms[0]]
            self.assertEqual(tallies_up_to(set_of(grammar_of(rooms)), most), walked(rooms, most), rooms)

    def test_arguments(self):
        check_arguments(self, grammar_of, "rooms")


class WalkFor(unittest.TestCase):
    def check_walk(self, rooms, one, walk):
        many, doors, ends = rooms
        self.assertIs(type(walk), tuple)
        room = 0
        word = ""
        for number in walk:
            self.assertIs(type(number), int)
            self.assertTrue(0 <= number < len(doors))
            first, letter, second = doors[number]
            self.assertEqual(first, room)
            room = second
            word += letter
        self.assertIn(room, ends)
        self.assertEqual(tally_of(many, word), one)

    def check(self, rooms, tallies, most):
        known = walked(rooms, most)
        for one in tallies:
            walk = walk_for(rooms, one)
            self.assertIs(walk is not None, one in known, (rooms, one))
            if walk is not None:
                self.check_walk(rooms, one, walk)

    def test_written_out(self):
        rooms = (2, ((0, "a", 1), (1, "b", 0), (0, "b", 0)), (1,))
        check_same(self, walk_for(rooms, (1, 0)), (0,))
        check_same(self, walk_for(rooms, (0, 0)), None)
        check_same(self, walk_for(rooms, (2, 1)), (0, 1, 0))
        check_same(self, walk_for(rooms, (2, 0)), None)
        check_same(self, walk_for((1, ((0, "a", 0),), (0,)), (0,)), ())
        check_same(self, walk_for((1, ((0, "a", 0),), (0,)), (12,)), (0,) * 12)
        check_same(self, walk_for((3, ((0, "c", 1), (1, "b", 2), (2, "a", 1)), (2,)), (1, 2, 1)), (0, 1, 2, 1))

    def test_without_doors(self):
        for ends in ((0,), (1,), (2, 0), (1, 2), (0, 1, 2)):
            expected = () if 0 in ends else None
            check_same(self, walk_for((2, (), ends), (0, 0)), expected)
            check_same(self, walk_for((2, (), ends), (0, 1)), None)
            check_refused(self, TooGreat, walk_for, (2, (), ends), (0, 13))

    def test_without_ends(self):
        for doors in (((0, "a", 0),), ((0, "a", 1), (1, "b", 0)), ((2, "b", 2),) * 8):
            for one in box((2, 2)):
                check_same(self, walk_for((2, doors, ()), one), None)
            check_refused(self, TooGreat, walk_for, (2, doors, ()), (7, 6))

    def test_all_small_tallies(self):
        for rooms in all_rooms():
            most = ((12,), (4, 4), (2, 2, 2), (1, 1, 2, 2))[rooms[0] - 1]
            self.check(rooms, box(most), most)

    def test_twelve_letters(self):
        for rooms in all_rooms():
            for most in (((12,),), ((6, 6), (11, 1), (0, 12)), ((4, 4, 4), (1, 10, 1)),
                         ((3, 3, 3, 3), (0, 6, 6, 0)))[rooms[0] - 1]:
                self.check(rooms, [most], most)

    def test_refused_from_thirteen_letters_on(self):
        for rooms in all_rooms():
            for one in ((13,), (GREAT,), (13, 0), (6, 7), (0, GREAT), (4, 4, 5), (13, 0, 0), (3, 3, 3, 4),
                        (0, 0, 0, 13)):
                if len(one) == rooms[0]:
                    check_refused(self, TooGreat, walk_for, rooms, one)

    def test_somewhat_more_rooms_and_doors(self):
        doors = ((0, "a", 3), (3, "b", 4), (4, "a", 0), (3, "a", 3), (4, "b", 2), (2, "b", 1), (1, "a", 2),
                 (0, "b", 0), (4, "a", 4))
        for ends in ((3,), (0, 4), (1, 2, 3)):
            self.check((2, doors, ends), box((4, 4)), (4, 4))

    def test_arguments(self):
        check_arguments(self, walk_for, "rooms", "one")


if __name__ == "__main__":
    unittest.main()
