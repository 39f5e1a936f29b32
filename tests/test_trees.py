"""Point 24: trees, their signs and their words."""

import random
import unittest

from helper import (
    GREAT, NO_TUPLES, check_arguments, check_refused, check_same, is_tree_of, replaced, some_grammar, word_told,
)
from tallysets.errors import NoTree
from tallysets.grammars import read_grammar
from tallysets.trees import sign_of, word_of

GRAMMAR = read_grammar("2;A=aAb;A=;A=BB;B=ba;B=AaC;C=b")

GOOD = (
    ((1, ()), "A", ""),
    ((3, ()), "B", "ba"),
    ((5, ()), "C", "b"),
    ((0, ((1, ()),)), "A", "ab"),
    ((0, ((0, ((1, ()),)),)), "A", "aabb"),
    ((2, ((3, ()), (3, ()))), "A", "baba"),
    ((4, ((1, ()), (5, ()))), "B", "ab"),
    ((4, ((0, ((1, ()),)), (5, ()))), "B", "abab"),
    ((2, ((4, ((1, ()), (5, ()))), (3, ()))), "A", "abba"),
    ((2, ((3, ()), (4, ((1, ()), (5, ()))))), "A", "baab"),
    ((0, ((2, ((4, ((2, ((3, ()), (3, ()))), (5, ()))), (3, ()))),)), "A", "ababaabbab"),
)

# Things that are no trees of GRAMMAR, nor of any grammar of six rules.
NO_TREES = NO_TUPLES + (
    (), (0,), (1,), (1, (), ()), (1, 1), (1, None), (1, []), (1, ""), (1, {}), (1, 0), ((), 1), ((1, ()),),
    ((1, ()), ()), ((1, ()), (1, ())), [1, ()], (-1, ()), (-6, ()), (6, ()), (7, ()), (GREAT, ()), (-GREAT, ()),
    (True, ()), (False, ((1, ()),)), (None, ()), ("1", ()), ("A", ()), ("", ()), (1.0, ()), (1j, ()), ([1], ()),
    ((1,), ()), (b"1", ()), (object(), ()), (1, ((),)), (1, ((1, ()),)), (1, (None,)), (0, ()), (2, ()), (4, ()),
    (2, ((3, ()),)), (2, ((3, ()),) * 3), (0, ((1, ()), (1, ()))), (0, [(1, ())]), (0, ([1, ()],)), (0, (1, ())),
    (0, ((3, ()),)), (0, ((5, ()),)), (2, ((1, ()), (3, ()))), (2, ((3, ()), (1, ()))), (2, ((3, ()), (5, ()))),
    (4, ((5, ()), (1, ()))), (4, ((1, ()), (1, ()))), (4, ((3, ()), (5, ()))), (0, ((True, ()),)),
    (0, ((1, (1, ())),)), (0, (((1, ()),),)), (0, ((0, ()),)), (0, ((-5, ()),)), (0, ((1, None),)),
)


def some_tree(chance, grammar, sign, depth):
    """A tree of the sign with rules in one another at most so deep, or None where none was met."""
    numbers = [number for number, rule in enumerate(grammar[1]) if rule[0] == sign]
    chance.shuffle(numbers)
    for number in numbers if depth else ():
        signs = [mark for mark in grammar[1][number][1] if mark.isupper()]
        branches = tuple(some_tree(chance, grammar, each, depth - 1) for each in signs)
        if None not in branches:
            return (number, branches)
    return None


def places_in(tree):
    """All ways down the tree, each as the tuple of the branches' numbers."""
    yield ()
    for number, branch in enumerate(tree[1]):
        for place in places_in(branch):
            yield (number,) + place


def put_in(tree, place, thing):
    """The tree with the thing at that place."""
    if not place:
        return thing
    return (tree[0], replaced(tree[1], place[0], put_in(tree[1][place[0]], place[1:], thing)))


def thing_at(tree, place):
    for number in place:
        tree = tree[1][number]
    return tree


def chain(top, rounds):
    """A tree of GRAMMAR in which rule 0 stands so often above the top."""
    for _ in range(rounds):
        top = (0, (top,))
    return top


def deep(thing):
    """How deep tuples stand in one another."""
    return 1 + max([deep(part) for part in thing], default=0) if isinstance(thing, tuple) else 0


class Trees(unittest.TestCase):
    def check_no_tree(self, grammar, thing):
        check_refused(self, NoTree, sign_of, grammar, thing)
        check_refused(self, NoTree, word_of, grammar, thing)

    def test_written_out(self):
        for tree, sign, word in GOOD:
            check_same(self, sign_of(GRAMMAR, tree), sign)
            check_same(self, word_of(GRAMMAR, tree), word)

    def test_trees_of_many_grammars(self):
        chance = random.Random(230)
        seen = 0
        for _ in range(400):
            grammar = some_grammar(chance)
            for sign in "ABC":
                tree = some_tree(chance, grammar, sign, 5)
                if tree is not None:
                    seen += 1
                    check_same(self, sign_of(grammar, tree), sign)
                    check_same(self, word_of(grammar, tree), word_told(grammar, tree))
        self.assertGreater(seen, 300)

    def test_deep_trees(self):
        for rounds in (10, 75, 100, 148, 149):
            tree = chain((1, ()), rounds)
            self.assertEqual(deep(tree), 2 * rounds + 2)
            check_same(self, sign_of(GRAMMAR, tree), "A")
            check_same(self, word_of(GRAMMAR, tree), "a" * rounds + "b" * rounds)
        tree = chain((2, ((4, ((1, ()), (5, ()))), (3, ()))), 147)
        self.assertEqual(deep(tree), 300)
        check_same(self, word_of(GRAMMAR, tree), "a" * 147 + "abba" + "b" * 147)

    def test_deep_trees_of_two_branches(self):
        grammar = read_grammar("2;A=AbB;A=a;B=AA;B=bB;B=")
        tree = (1, ())
        for _ in range(149):
            tree = (0, (tree, (4, ())))
        self.assertEqual(deep(tree), 300)
        check_same(self, word_of(grammar, tree), "a" + "b" * 149)
        tree = (4, ())
        for _ in range(70):
            tree = (0, ((1, ()), tree))
            tree = (2, (tree, (1, ())))
        check_same(self, sign_of(grammar, tree), "B")
        check_same(self, word_of(grammar, tree), "ab" * 70 + "a" * 70)

    def test_no_trees(self):
        for thing in NO_TREES:
            self.assertFalse(any(is_tree_of(GRAMMAR, thing, sign) for sign in "ABC"))
            self.check_no_tree(GRAMMAR, thing)

    def test_no_tree_at_any_place(self):
        for tree, sign, word in GOOD:
            for place in places_in(tree):
                for thing in NO_TREES:
                    self.check_no_tree(GRAMMAR, put_in(tree, place, thing))

    def test_a_branch_of_another_sign_at_any_place(self):
        for tree, sign, word in GOOD:
            for place in places_in(tree):
                if place:
                    own = GRAMMAR[1][thing_at(tree, place)[0]][0]
                    for other, other_sign, other_word in GOOD:
                        changed = put_in(tree, place, other)
                        if own == other_sign:
                            check_same(self, word_of(GRAMMAR, changed), word_told(GRAMMAR, changed))
                            check_same(self, sign_of(GRAMMAR, changed), sign)
                        else:
                            self.check_no_tree(GRAMMAR, changed)

    def test_branches_lacking_or_too_many_at_any_place(self):
        for tree, sign, word in GOOD:
            for place in places_in(tree):
                number, branches = thing_at(tree, place)
                for more in GOOD[:4]:
                    self.check_no_tree(GRAMMAR, put_in(tree, place, (number, branches + (more[0],))))
                    self.check_no_tree(GRAMMAR, put_in(tree, place, (number, (more[0],) + branches)))
                for lacking in range(len(branches)):
                    fewer = branches[:lacking] + branches[lacking + 1:]
                    self.check_no_tree(GRAMMAR, put_in(tree, place, (number, fewer)))

    def test_lists_pairs_and_truths_at_any_place(self):
        for tree, sign, word in GOOD:
            for place in places_in(tree):
                number, branches = thing_at(tree, place)
                for thing in ([number, branches], (number, list(branches)), (number,), (branches, number),
                              (number, branches, ()), (number, branches, branches), (number - 6, branches),
                              (number + 6, branches), (float(number), branches), (str(number), branches),
                              (bool(number), branches) if number < 2 else None, (None, branches)):
                    self.check_no_tree(GRAMMAR, put_in(tree, place, thing))

    def test_branches_in_another_order(self):
        chance = random.Random(231)
        for _ in range(300):
            grammar = some_grammar(chance, signs="AB")
            tree = some_tree(chance, grammar, "A", 5)
            for place in places_in(tree) if tree else ():
                number, branches = thing_at(tree, place)
                turned = put_in(tree, place, (number, branches[::-1]))
                if is_tree_of(grammar, turned, "A"):
                    check_same(self, word_of(grammar, turned), word_told(grammar, turned))
                else:
                    self.check_no_tree(grammar, turned)

    def test_the_innermost_place_of_a_deep_one(self):
        for thing in NO_TREES:
            for rounds in (100, 145):
                self.check_no_tree(GRAMMAR, chain(thing, rounds))
        self.check_no_tree(GRAMMAR, chain((3, ()), 149))
        self.check_no_tree(GRAMMAR, chain((), 149))

    def test_tuples_in_one_another(self):
        thing = ()
        for _ in range(299):
            thing = (thing,)
        self.check_no_tree(GRAMMAR, thing)
        thing = ()
        for _ in range(299):
            thing = (0, thing)
        self.assertEqual(deep(thing), 300)
        self.check_no_tree(GRAMMAR, thing)

    def test_rules_of_the_grammar_alone(self):
        one = read_grammar("1;A=a")
        check_same(self, word_of(one, (0, ())), "a")
        for tree in ((1, ()), (2, ()), (-1, ()), (0, ((0, ()),))):
            self.check_no_tree(one, tree)
        signless = read_grammar("1;A=aB;A=")
        for tree in ((0, ()), (0, ((0, ()),)), (0, ((1, ()),)), (0, ((2, ()),))):
            self.check_no_tree(signless, tree)

    def test_somewhat_more_signs_in_a_right_text(self):
        grammar = (2, (("A", "BaCbA"), ("A", ""), ("B", "bb"), ("C", "aa")))
        check_same(self, word_of(grammar, (0, ((2, ()), (3, ()), (1, ())))), "bbaaab")
        self.check_no_tree(grammar, (0, ((2, ()), (1, ()), (3, ()))))
        self.check_no_tree(grammar, (0, ((2, ()), (3, ()))))

    def test_arguments(self):
        check_arguments(self, sign_of, "grammar", "tree")
        check_arguments(self, word_of, "grammar", "tree")


if __name__ == "__main__":
    unittest.main()
