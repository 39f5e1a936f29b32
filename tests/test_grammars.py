"""Points 22, 23 and 24: grammars as texts, and the tallies of words."""

import itertools
import random
import re
import unittest

from helper import check_arguments, check_refused, check_same, some_grammar
from tallysets.errors import NoText
from tallysets.grammars import read_grammar, show_grammar, tally_of

WRITTEN = (
    ((2, (("A", "aAb"), ("A", ""), ("A", "BB"), ("B", "ba"))), "2;A=aAb;A=;A=BB;B=ba"),
    ((1, (("A", ""),)), "1;A="),
    ((1, (("C", "a"),)), "1;C=a"),
    ((4, (("B", "dcba"),)), "4;B=dcba"),
    ((4, (("A", "aBCd"), ("B", "AA"), ("C", "A"))), "4;A=aBCd;B=AA;C=A"),
    ((3, (("A", "ccAc"), ("A", "ccAc"))), "3;A=ccAc;A=ccAc"),
    ((2, (("A", ""),) * 8), "2;A=;A=;A=;A=;A=;A=;A=;A="),
    ((4, (("C", "dAdB"),) * 8), "4" + ";C=dAdB" * 8),
)

# Nearly texts of grammars.
REFUSED = (
    "", " ", ";", "=", "0", "1", "2", "A=", ";A=", "1;", "1;;A=", "1;A=;", ";1;A=", "1 ;A=", " 1;A=", "1; A=",
    "0;A=", "5;A=", "9;A=", "10;A=", "11;A=", "01;A=", "12;A=", "-1;A=", "+1;A=", "1.;A=", "a;A=", "A;A=", ";A=a",
    "2" + ";A=" * 9, "2" + ";A=aAb" * 9, "2" + ";A=" * 20,
    "1;=", "1;=a", "1;a=", "1;a=a", "1;D=", "1;AB=", "1;AA=a", "1;1=", "1; =", "1;A", "1;Aa", "1;A a", "1;A==",
    "1;A==a", "1;A=a=", "1;=A=", "1;A=a=a", "1;A:a", "1;A-a", "1;A->a", "1,A=a", "1:A=a", "1\nA=a", "1A=a",
    "4;A=abcda", "4;A=AabcB", "1;A=aaaaa", "1;A=AAA", "1;A=ABC", "1;A=aAAA", "1;A=CCCC", "4;B=ABCd",
    "1;A=b", "1;A=d", "2;A=c", "2;A=abAc", "3;A=d", "3;A=aaad", "4;A=e", "4;A=x", "4;A=D", "4;A=1", "4;A=a1",
    "4;A=-", "4;A=a b", "4;A= a", "4;A=a ", "4;A=a\n", "4;A=\n", "4;A=a;\n", "4\n;A=a", "4;A\n=a", "4;\nA=a",
    "\n4;A=a", "4;A=a\t", "4;A=a,", "4;A=a|b", "4;A=a+b", "4;A=.", "4;A=''", "4;A=\"\"", "4;A=None",
    "4;A=a;B", "4;A=a;B=;b=", "4;A=a;;B=", "4;A=a; B=", "4;A=a;B =", "4;A=a;B= ", "4;A=a;4;B=", "4;A=a;=",
    "(1, (('A', ''),))", "None", "-",
)

SHAPE = re.compile(r"[1-4](;[ABC]=[A-Ca-d]{0,4}){1,8}")


def read_as_told(text):
    """The grammar that the text is to be read as, or None: points 22 and 23 once more, in another way."""
    if not SHAPE.fullmatch(text):
        return None
    many = int(text[0])
    rules = tuple(tuple(rule.split("=")) for rule in text[2:].split(";"))
    for sign, right in rules:
        if len(re.findall("[ABC]", right)) > 2 or set(right) & set("abcd"[many:]):
            return None
    return (many, rules)


class ShowGrammar(unittest.TestCase):
    def test_written_out(self):
        for grammar, text in WRITTEN:
            check_same(self, show_grammar(grammar), text)

    def test_arguments(self):
        check_arguments(self, show_grammar, "grammar")


class ReadGrammar(unittest.TestCase):
    def check(self, text):
        expected = read_as_told(text)
        if expected is None:
            check_refused(self, NoText, read_grammar, text)
        else:
            check_same(self, read_grammar(text), expected)
            check_same(self, show_grammar(expected), text)

    def test_written_out(self):
        for grammar, text in WRITTEN:
            check_same(self, read_grammar(text), grammar)

    def test_back_again(self):
        chance = random.Random(220)
        for number in range(500):
            grammar = some_grammar(chance)
            check_same(self, read_grammar(show_grammar(grammar)), grammar)

    def test_all_short_right_texts(self):
        for many in (1, 2, 3, 4):
            for long in (0, 1, 2, 3):
                for right in itertools.product("ABCabcde;= 1", repeat=long):
                    self.check(str(many) + ";A=" + "".join(right))

    def test_right_texts_of_four_and_five_places(self):
        for many in (1, 2):
            for long in (4, 5):
                for right in itertools.product("ABabc", repeat=long):
                    self.check(str(many) + ";B=" + "".join(right))

    def test_one_to_nine_rules(self):
        for rule in (";A=", ";A=a", ";B=aABa", ";C=BB"):
            for count in range(13):
                self.check("2" + rule * count)

    def test_refused(self):
        for text in REFUSED:
            self.assertIsNone(read_as_told(text), text)
            check_refused(self, NoText, read_grammar, text)

    def test_a_sign_too_few(self):
        for grammar, text in WRITTEN:
            for place in range(len(text)):
                self.check(text[:place] + text[place + 1:])

    def test_a_sign_too_many(self):
        for grammar, text in WRITTEN:
            for place in range(len(text) + 1):
                for sign in "ABCDabcde0125;= \n,-":
                    self.check(text[:place] + sign + text[place:])

    def test_another_sign(self):
        for grammar, text in WRITTEN:
            for place in range(len(text)):
                for sign in "ABCDabcde0125;= \n,-":
                    self.check(text[:place] + sign + text[place + 1:])

    def test_arguments(self):
        check_arguments(self, read_grammar, "text")


class TallyOf(unittest.TestCase):
    def test_written_out(self):
        cases = (
            (1, "", (0,)), (2, "", (0, 0)), (3, "", (0, 0, 0)), (4, "", (0, 0, 0, 0)),
            (1, "aaa", (3,)), (2, "abba", (2, 2)), (2, "bbb", (0, 3)), (3, "cab", (1, 1, 1)), (3, "ccc", (0, 0, 3)),
            (4, "dddd", (0, 0, 0, 4)), (4, "abacadc", (3, 1, 2, 1)), (4, "a", (1, 0, 0, 0)),
            (2, "ab" * 1000 + "b", (1000, 1001)),
        )
        for many, word, expected in cases:
            check_same(self, tally_of(many, word), expected)

    def test_all_short_words(self):
        for many in (1, 2, 3, 4):
            letters = "abcd"[:many]
            for long in range(5):
                for word in itertools.product(letters, repeat=long):
                    expected = tuple(sum(letter == other for other in word) for letter in letters)
                    check_same(self, tally_of(many, "".join(word)), expected)

    def test_arguments(self):
        check_arguments(self, tally_of, "many", "word")


if __name__ == "__main__":
    unittest.main()
