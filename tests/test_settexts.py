"""Point 6: sets as texts."""

import re
import unittest

from helper import GREAT, check_arguments, check_refused, check_same, some_sets
from tallysets.errors import NoText
from tallysets.settexts import read_set, show_set

WRITTEN = (
    ((), "-"),
    ((((0,), ()),), "0"),
    ((((7,), ()),), "7"),
    ((((10,), ()), ((0,), ())), "10 | 0"),
    ((((2, 0), ((0, 3), (1, 1))), ((0, 4), ())), "2,0+0,3+1,1 | 0,4"),
    ((((0, 4), ()), ((2, 0), ((0, 3), (1, 1)))), "0,4 | 2,0+0,3+1,1"),
    ((((1, 1), ((1, 1),)),) * 3, "1,1+1,1 | 1,1+1,1 | 1,1+1,1"),
    ((((0,), ((1,), (9,), (10,), (100,))),), "0+1+9+10+100"),
    ((((1, 0, 20), ((0, 0, 1), (0, 10, 0))),), "1,0,20+0,0,1+0,10,0"),
    ((((1, 2, 3, 4), ((0, 0, 0, 1),)), ((0, 0, 0, 0), ())), "1,2,3,4+0,0,0,1 | 0,0,0,0"),
    ((((GREAT,), ((GREAT - 1,), (GREAT,))),),
     "1000000000000000+999999999999999+1000000000000000"),
    ((((123456789, 1002003004005), ()),), "123456789,1002003004005"),
)

# Nearly texts of sets.
REFUSED = (
    "", " ", "+", ",", "|", " | ", "--", "- ", " -", "-1", "+1", "1+", "1,", ",1", "1 ", " 1",
    "1 |", "| 1", "1 | ", " | 1", "1|2", "1| 2", "1 |2", "1  | 2", "1 |  2", "1 || 2", "1 | | 2",
    "1 |  | 2", "1+ 2", "1 +2", "1 + 2", "1,2+ 0,1", "1++2", "1+,2", "1,,2", "1, 2", "1 ,2",
    "1 2", "1\n", "\n1", "1\t", "1 | 2\n", "1;2", "1.0", "1e3", "1_000", "0x1", "a", "1a", "a1",
    "00", "01", "1,01", "1+01", "1 | 01", "000", "0,00",
    "1000000000000001", "9999999999999999", "10000000000000000", "0,1000000000000001",
    "1+1000000000000001", "1 | 1000000000000001", "1" + "0" * 40,
    "-1,2", "1,-2", "1,2+-1,0", "1,2+0,-1", "1,2 | -1,0",
    "1,2+0,0", "1+0", "0,0+0,0", "1,2+0,0+0,1", "0,0,0+0,0,0", "1,2 | 3,4+0,0",
    "1+1+1", "1,2+0,1+0,1", "1,2+0,1+1,0+1,0", "0 | 0+1+1",
    "1+2+1", "1,2+1,0+0,1", "0+10+9", "0,0+0,2+0,10+0,3", "0 | 0+2+1",
    "1,2+1", "1+1,2", "1,2+1,2,3", "1,2 | 1", "1 | 1,2", "1,2,3 | 1,2", "1,2,3,4 | 1,2,3",
    "1,2+0,1 | 1+1", "1,2,3,4,5", "0,0,0,0,0", "1,2,3,4,5+1,0,0,0,0", "0,0,0,0,1 | 0,0,0,0,2",
    "- | 1", "1 | -", "- | -", "1 | - | 2", "-+1", "1+-", "-,1", "1,-", "-1+1",
    "()", "(1,)", "((1,), ())", "[1]", "None", "True",
)

SET_SHAPE = re.compile(r"N(,N)*(\+N(,N)*)*( \| N(,N)*(\+N(,N)*)*)*".replace("N", "(0|[1-9][0-9]*)"))


def read_as_told(text):
    """The set that the text is to be read as, or None: point 6 once more, in another way."""
    if text == "-":
        return ()
    if not SET_SHAPE.fullmatch(text):
        return None
    fans = []
    for fan in text.split(" | "):
        begin, *steps = [tuple(map(int, tally.split(","))) for tally in fan.split("+")]
        fans.append((begin, tuple(steps)))
    tallies = [one for begin, steps in fans for one in (begin,) + steps]
    good = (
        len({len(one) for one in tallies}) == 1
        and len(tallies[0]) <= 4
        and max(max(one) for one in tallies) <= GREAT
        and all(any(step) for begin, steps in fans for step in steps)
        and all(sorted(set(steps)) == list(steps) for begin, steps in fans)
    )
    return tuple(fans) if good else None


class ShowSet(unittest.TestCase):
    def test_written_out(self):
        for some, text in WRITTEN:
            check_same(self, show_set(some), text)

    def test_greater_numbers_than_are_read(self):
        for number in (GREAT + 1, 2 * GREAT, 10 ** 16, 10 ** 30, 10 ** 45 + 7, 3 * 10 ** 60 + 10 ** 15):
            check_same(self, show_set((((number, 0), ((0, number),)),)), f"{number},0+0,{number}")

    def test_numbers_of_thousands_of_figures(self):
        check_same(self, show_set((((10 ** 5000,), ()),)), "1" + "0" * 5000)
        check_same(self, show_set((((10 ** 5000 - 1,), ()),)), "9" * 5000)

    def test_arguments(self):
        check_arguments(self, show_set, "some")


class ReadSet(unittest.TestCase):
    def test_written_out(self):
        for some, text in WRITTEN:
            check_same(self, read_set(text), some)

    def test_back_again(self):
        for some in some_sets(1, 400, most_fans=6, most_steps=6, top=12):
            check_same(self, read_set(show_set(some)), some)
        for some in some_sets(2, 100, top=GREAT):
            check_same(self, read_set(show_set(some)), some)

    def test_many_fans_with_many_steps(self):
        steps = tuple((number // 7, number % 7 + 1) for number in range(40))
        some = tuple(((number, 0), steps) for number in range(100))
        check_same(self, read_set(show_set(some)), some)

    def test_refused(self):
        for text in REFUSED:
            self.assertIsNone(read_as_told(text), text)
            check_refused(self, NoText, read_set, text)

    def test_numbers_of_thousands_of_figures(self):
        for text in ("9" * 5000, "0" * 5000, "1,2+" + "1" * 5000 + ",1"):
            check_refused(self, NoText, read_set, text)

    def check(self, text):
        expected = read_as_told(text)
        if expected is None:
            check_refused(self, NoText, read_set, text)
        else:
            check_same(self, read_set(text), expected)
            check_same(self, show_set(expected), text)

    def test_a_sign_too_few(self):
        for some, text in WRITTEN:
            for place in range(len(text)):
                self.check(text[:place] + text[place + 1:])

    def test_a_sign_too_many(self):
        for some, text in WRITTEN:
            for place in range(len(text) + 1):
                for sign in "0159,+|- .\na(":
                    self.check(text[:place] + sign + text[place:])

    def test_another_sign(self):
        for some, text in WRITTEN:
            for place in range(len(text)):
                for sign in "0159,+|- \nA":
                    self.check(text[:place] + sign + text[place + 1:])

    def test_a_fan_or_a_step_too_many(self):
        for some, text in WRITTEN:
            for more in ("0", "1", "0,0", "0,1", "3,3", "0,0,0", "1,1,1", "2,2,2,2", "1,1,1,1,1", "-", ""):
                for other in (text + "+" + more, more + "+" + text, text + " | " + more,
                              more + " | " + text, text + "," + more, more + "," + text):
                    self.check(other)

    def test_arguments(self):
        check_arguments(self, read_set, "text")


if __name__ == "__main__":
    unittest.main()
