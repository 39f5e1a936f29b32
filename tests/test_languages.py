"""Points 25 and 26: the set of a grammar, and trees for tallies."""

import random
import unittest

from helper import (
    GREAT, box, check_arguments, check_refused, check_same, come_to, is_tree_of, some_grammar, tallies_of_grammar,
    tallies_up_to, word_told, words_of_grammar,
)
from tallysets.errors import TooGreat
from tallysets.fans import is_set
from tallysets.grammars import read_grammar, show_grammar, tally_of
from tallysets.languages import set_of, tree_for
from tallysets.trees import sign_of, word_of
from tallysets.withins import table_of, within

TOPS = {1: (30,), 2: (9, 9), 3: (5, 5, 5), 4: (3, 3, 3, 3)}

GRAMMARS = (
    # No trees of A.
    "1;B=a", "1;A=A", "2;A=aA;A=bA", "2;A=aAA", "2;A=B", "2;A=aB;A=bC;B=bB;C=A", "2;A=aBC;B=ab;B=B;A=BC",
    "3;A=BC;B=CA;C=AB", "1;C=a;B=a", "2;A=BB;B=aA",
    # Words that come to an end.
    "1;A=", "1;A=aaaa", "2;A=ab;A=ba", "4;A=dcba;A=abcd", "4;A=BB;B=CC;C=a;C=b;C=c;C=d", "2;A=BB;B=aab;B=b",
    "3;A=aBCb;B=cc;C=;C=a",
    # Rules that go round, with letters and without.
    "1;A=A;A=a", "1;A=AA;A=", "1;A=AA;A=aa;A=aaa", "2;A=aAb;A=;A=BB;B=ba", "2;A=AA;A=ab;A=", "2;A=B;B=A;A=aa;B=b",
    "2;A=aB;B=bA;A=;B=B", "3;A=aBa;B=bCb;C=cAc;A=", "3;A=AB;A=a;B=b;B=BC;C=c", "2;A=BC;B=aB;B=;C=bC;C=",
    "3;A=BC;B=aBb;B=;C=cC;C=AA", "4;A=ab;A=cAd;A=AB;B=BB;B=a", "1;A=aaA;A=aaaA;A=", "1;A=aaaA;A=BB;B=aaaa;B=A",
    "4;A=aA;A=bA;A=cA;A=dA;A=", "4;A=aAA;A=bb;A=B;B=cA;B=d",
    # Signs without rules, and signs that A does not come to.
    "2;A=a;A=BA;B=aC", "2;A=a;A=aC;A=bA", "2;A=a;B=b;C=BB", "2;A=a;B=A;C=bB;C=", "2;A=aA;A=b;B=BB",
    # Loops of signs that only come up together with others.
    "3;A=;A=aB;B=C;C=bB;C=A;B=cC", "2;A=aB;B=Cb;C=BB;C=;A=CC", "2;A=b;A=BB;B=CC;C=a;C=A",
    # Many fans and many steps; in the last ones some are not small.
    "4;C=;A=bbBB;B=adCA;C=BB;A=ddCC;C=aba;C=bbB;C=bC", "2;C=bbab;B=AA;A=CC;A=CC;C=BAaa;C=aaa;C=;C=bbCB",
    "3;B=CCa;A=bBB;C=AAbb;B=aca;A=;B=CaB;B=ba;C=abBb", "4;B=CC;C=Cbcd;A=BB;B=cCdA;C=AcA;A=bacd;C=Aba;C=",
    "4;A=BC;C=aAB;C=baBA;B=CCdc;B=abca;A=BBd;C=AA;A=a",
)

# Grammars somewhat beyond the bounds of point 22: nothing is refused for it.
BEYOND = (
    (2, tuple(("A", right) for right in ("aA", "bA", "ab", "", "aab", "BB", "Bb", "aBa", "bb")) + (("B", "abB"),)),
    (2, (("A", "AAA"), ("A", "a"), ("A", "bbB"), ("B", "abaAb"), ("B", "BBBBb"))),
)


def all_grammars():
    yield from map(read_grammar, GRAMMARS)
    yield from BEYOND
    chance = random.Random(240)
    for signs in ("A", "AB", "ABC"):
        for _ in range(60):
            yield some_grammar(chance, signs=signs)


def way_down(tree):
    return 1 + max([way_down(branch) for branch in tree[1]], default=0)


def rules_in(tree):
    return 1 + sum(rules_in(branch) for branch in tree[1])


class SetOf(unittest.TestCase):
    def test_just_the_tallies_of_words(self):
        for grammar in all_grammars():
            most = TOPS[grammar[0]]
            some = set_of(grammar)
            self.assertIs(is_set(some), True)
            self.assertTrue(all(len(begin) == grammar[0] for begin, steps in some))
            expected = tallies_of_grammar(grammar, most)["A"]
            check_same(self, table_of(some, most), tuple(sorted(expected)))
            self.assertEqual(tallies_up_to(some, most), expected, show_grammar(grammar))

    def test_each_word_within_with_how_often_each_step_is_taken(self):
        seen = 0
        for grammar in all_grammars():
            some = set_of(grammar)
            for word in words_of_grammar(grammar, 5)["A"]:
                seen += 1
                one = tally_of(grammar[0], word)
                number, counts = within(some, one)
                begin, steps = some[number]
                self.assertEqual(come_to(begin, counts, steps), one)
        self.assertGreater(seen, 3000)

    def test_no_words(self):
        for text in GRAMMARS[:10]:
            grammar = read_grammar(text)
            self.assertEqual(tallies_of_grammar(grammar, TOPS[grammar[0]])["A"], set())
            check_same(self, set_of(grammar), ())

    def test_far_tallies(self):
        # Tallies beyond all begins, that steps alone come to.
        cases = (
            ("2;A=aAb;A=;A=BB;B=ba", (30, 30), True), ("2;A=aAb;A=;A=BB;B=ba", (30, 29), False),
            ("1;A=AA;A=aa;A=aaa", (1000,), True), ("1;A=AA;A=aaaa;A=aaa", (5,), False),
            ("1;A=aaA;A=a", (2001,), True), ("1;A=aaA;A=a", (2000,), False),
            ("3;A=aBa;B=bCb;C=cAc;A=", (12, 12, 12), True), ("3;A=aBa;B=bCb;C=cAc;A=", (12, 12, 10), False),
            # One b more than there are a at least, and two more for each a at most.
            ("2;A=aBB;B=bA;B=A;A=b", (20, 20), False), ("2;A=aBB;B=bA;B=A;A=b", (20, 21), True),
            ("2;A=aBB;B=bA;B=A;A=b", (20, 45), True), ("2;A=aBB;B=bA;B=A;A=b", (20, 50), True),
            ("2;A=aBB;B=bA;B=A;A=b", (20, 61), True), ("2;A=aBB;B=bA;B=A;A=b", (20, 62), False),
        )
        for text, one, expected in cases:
            self.assertIs(within(set_of(read_grammar(text)), one) is not None, expected, (text, one))

    def test_arguments(self):
        check_arguments(self, set_of, "grammar")


class TreeFor(unittest.TestCase):
    def check_tree(self, grammar, one, tree):
        self.assertTrue(is_tree_of(grammar, tree, "A"), (grammar, tree))
        self.assertEqual(tally_of(grammar[0], word_told(grammar, tree)), one)
        check_same(self, sign_of(grammar, tree), "A")
        check_same(self, word_of(grammar, tree), word_told(grammar, tree))
        self.assertLessEqual(way_down(tree), 60)
        self.assertLessEqual(rules_in(tree), 2000)

    def check(self, grammar, tallies, most):
        known = tallies_of_grammar(grammar, most)["A"]
        for one in tallies:
            tree = tree_for(grammar, one)
            self.assertIs(tree is not None, one in known, (grammar, one))
            if tree is not None:
                self.check_tree(grammar, one, tree)

    def test_written_out(self):
        grammar = read_grammar("2;A=aAb;A=;A=BB;B=ba")
        check_same(self, tree_for(grammar, (0, 0)), (1, ()))
        check_same(self, tree_for(grammar, (1, 1)), (0, ((1, ()),)))
        check_same(self, tree_for(grammar, (1, 0)), None)
        check_same(self, tree_for(read_grammar("1;A=B;B=C;C=aa"), (2,)), (0, ((1, ((2, ()),)),)))
        check_same(self, tree_for(read_grammar("1;A=B;B=A;A=A"), (0,)), None)

    def test_small_tallies(self):
        for grammar in all_grammars():
            most = ((12,), (4, 4), (2, 2, 2), (1, 2, 1, 2))[grammar[0] - 1]
            self.check(grammar, box(most), most)

    def test_twelve_letters(self):
        chance = random.Random(250)
        for grammar in all_grammars():
            most = ((12,), (6, 6), (4, 4, 4), (3, 3, 3, 3))[grammar[0] - 1]
            self.check(grammar, [most], most)
            word = [chance.randrange(grammar[0]) for _ in range(chance.randint(9, 12))]
            one = tuple(word.count(place) for place in range(grammar[0]))
            self.check(grammar, [one], one)

    def test_low_and_small_trees_where_there_are_many(self):
        # Rules without letters could go round for ever, and branches without letters be many.
        for text in ("1;A=AA;A=a;A=;A=A", "2;A=BC;B=CA;C=AB;A=a;B=b;C=;B=;A=", "1;A=B;B=C;C=AA;C=A;A=a;A=",
                     "1;A=BB;B=CC;C=AA;C=;A=a", "4;A=BaC;B=CC;C=AA;A=b;C=c;B=;B=dB;A="):
            grammar = read_grammar(text)
            most = ((12,), (6, 6), (4, 4, 4), (3, 3, 3, 3))[grammar[0] - 1]
            self.check(grammar, [one for one in box(most) if sum(one) > 8 or sum(one) < 2], most)

    def test_a_long_way_round_for_each_letter(self):
        grammar = read_grammar("1;A=B;B=C;C=aA;C=a")
        for count in range(13):
            tree = tree_for(grammar, (count,))
            if count == 0:
                self.assertIsNone(tree)
            else:
                self.check_tree(grammar, (count,), tree)
                self.assertEqual(way_down(tree), 3 * count)

    def test_refused_from_thirteen_letters_on(self):
        for text in ("1;A=aA;A=", "1;B=a", "2;A=aAb;A=;A=BB;B=ba", "3;A=", "4;A=BB;B=abcd;B=B"):
            grammar = read_grammar(text)
            for one in ((13,), (14,), (GREAT,), (13, 0), (0, 13), (6, 7), (GREAT, 0), (4, 4, 5), (0, 0, 13),
                        (4, 3, 3, 3), (0, 13, 0, 0), (GREAT,) * 4):
                if len(one) == grammar[0]:
                    check_refused(self, TooGreat, tree_for, grammar, one)

    def test_arguments(self):
        check_arguments(self, tree_for, "grammar", "one")


if __name__ == "__main__":
    unittest.main()
