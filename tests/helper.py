"""What several tests need: samples, and how refusals and answers are looked at."""

import inspect
import itertools
import random

from tallysets.errors import NoFan, NoTally, NoText, NoTree, TallyError, TooGreat

GREAT = 10 ** 15

REFUSALS = (NoTally, NoFan, NoText, NoTree, TooGreat)

# Things that are no numbers from 0 on, so that none of them stands in a tally.
NO_PARTS = (
    -1, -2, -GREAT, True, False, None, "", "1", "a", [], [1], (), (1,), (0, 0),
    {}, {1: 1}, 1.0, 0.0, -0.5, 1j, b"1", {1}, object(), int, len,
)

# Things that are no tallies of whatever length, no fans and no sets.
NO_TUPLES = (
    None, True, False, 0, 1, 2, -1, GREAT, "", "a", "-", "0", "1,2", "2,0+0,3",
    [], [0], [1, 2], [[1, 2]], [(1, 2)], [((1, 2), ())], {}, {1: 2}, {(1, 2): ()},
    1.5, 1j, b"ab", {1}, frozenset(), range(2), object(), int, len, iter(()),
)


def tallies_as_long(long):
    """All tallies with so many numbers, of noughts, small numbers and a great one."""
    return list(itertools.product((0, 1, 3, GREAT), repeat=long))


def replaced(row, place, thing):
    """The tuple row with the thing at the place."""
    return row[:place] + (thing,) + row[place + 1:]


def inserted(row, place, thing):
    """The tuple row with the thing put in ahead of the place."""
    return row[:place] + (thing,) + row[place:]


def box(most):
    """All tallies at most this one, in order."""
    return list(itertools.product(*[range(part + 1) for part in most]))


def plus(one, other):
    return tuple(left + right for left, right in zip(one, other))


def fits(one, most):
    return all(left <= right for left, right in zip(one, most))


def come_to(begin, counts, steps):
    """The begin and the steps, each taken so often."""
    for count, step in zip(counts, steps, strict=True):
        for _ in range(count):
            begin = plus(begin, step)
    return begin


def sums_up_to(steps, most, begin=None):
    """What comes of the begin (else of noughts) and the steps, as a Python set, up to most."""
    begin = (0,) * len(most) if begin is None else begin
    reached = {begin} if fits(begin, most) else set()
    waiting = list(reached)
    while waiting:
        one = waiting.pop()
        for step in steps:
            further = plus(one, step)
            if fits(further, most) and further not in reached:
                reached.add(further)
                waiting.append(further)
    return reached


def tallies_up_to(some, most):
    """All that the set has up to most, as a Python set."""
    found = set()
    for begin, steps in some:
        found |= sums_up_to(steps, most, begin)
    return found


def rows_below(long, most):
    """All rows of so many numbers from 0 on that come to at most this."""
    if long == 0:
        return [()]
    return [(first,) + row for first in range(most + 1) for row in rows_below(long - 1, most - first)]


def least_of(rows):
    """Those of the rows that no other one of them is at most, in order."""
    leasts = []
    for row in sorted(rows, key=sum):
        if not any(fits(least, row) for least in leasts):
            leasts.append(row)
    return tuple(sorted(leasts))


def rows_to(values, total, most_rising, most_falling):
    """The rows that come to the total, with at most so many values above and below 0 taken."""
    rising = [place for place, value in enumerate(values) if value > 0]
    falling = [place for place, value in enumerate(values) if value < 0]
    lower = {}
    for down in rows_below(len(falling), most_falling):
        lower.setdefault(sum(values[place] * count for place, count in zip(falling, down)), []).append(down)
    rows = []
    for up in rows_below(len(rising), most_rising):
        high = sum(values[place] * count for place, count in zip(rising, up))
        for down in lower.get(total - high, ()):
            row = [0] * len(values)
            for place, count in zip(rising + falling, up + down):
                row[place] = count
            rows.append(tuple(row))
    return rows


def loops_gone_through(values):
    """The loops of values: in none more rising ones are taken than the steepest falls, nor the other way."""
    steepest = max([abs(value) for value in values] + [1])
    rows = [row for row in rows_to(values, 0, steepest, steepest) if any(row)]
    for place, value in enumerate(values):
        if value == 0:
            rows.append(tuple(int(other == place) for other in range(len(values))))
    return least_of(rows)


def leasts_gone_through(values, total):
    """The leasts for a total, which are loops in which minus the total is taken once besides."""
    steepest = max([abs(value) for value in values] + [1])
    further = max(steepest, abs(total))
    if total > 0:
        return least_of(rows_to(values, total, further, steepest))
    return least_of(rows_to(values, total, steepest, further))


def is_led_over(one, other):
    """Whether the one fan is led over into the other, by all sums gone through."""
    return (
        one[0] in sums_up_to(other[1], one[0], other[0])
        and all(step in sums_up_to(other[1], step) for step in one[1])
    )


def some_tally(chance, long, top):
    return tuple(chance.randint(0, top) for _ in range(long))


def some_fan(chance, long, many_steps, top):
    steps = {some_tally(chance, long, top) for _ in range(chance.randint(0, many_steps))}
    return (some_tally(chance, long, top), tuple(sorted(step for step in steps if any(step))))


def some_sets(seed, count, most_fans=4, most_steps=4, top=3, longs=(1, 2, 3, 4)):
    """So many sets of small numbers, always the same ones for a seed."""
    chance = random.Random(seed)
    made = []
    for number in range(count):
        long = longs[number % len(longs)]
        fans = [some_fan(chance, long, most_steps, top) for _ in range(chance.randint(0, most_fans))]
        made.append(tuple(fans))
    return made


def some_grammar(chance, most_rules=8, signs="ABC", many=None):
    """A grammar of up to so many rules with some of these signs."""
    many = many or chance.randint(1, 4)
    rules = []
    for _ in range(chance.randint(1, most_rules)):
        places = [chance.choice(signs) for _ in range(chance.choice((0, 0, 1, 1, 2)))]
        places += [chance.choice("abcd"[:many]) for _ in range(chance.randint(0, 4 - len(places)))]
        chance.shuffle(places)
        rules.append((chance.choice(signs), "".join(places)))
    return (many, tuple(rules))


def tallies_of_grammar(grammar, most):
    """The tallies up to most of the words of each sign, as a dict of Python sets."""
    many, rules = grammar
    known = {sign: set() for sign in "ABC"}
    size = -1
    while size != sum(map(len, known.values())):
        size = sum(map(len, known.values()))
        for sign, right in rules:
            reached = {tuple(right.count(letter) for letter in "abcd"[:many])}
            for branch in (mark for mark in right if mark.isupper()):
                reached = {plus(one, part) for one in reached for part in known[branch]}
                reached = {one for one in reached if fits(one, most)}
            known[sign] |= {one for one in reached if fits(one, most)}
    return known


def words_of_grammar(grammar, longest):
    """The words of each sign of at most so many letters, as a dict of Python sets."""
    known = {sign: set() for sign in "ABC"}
    size = -1
    while size != sum(map(len, known.values())):
        size = sum(map(len, known.values()))
        for sign, right in grammar[1]:
            reached = {""}
            for mark in right:
                parts = known[mark] if mark.isupper() else {mark}
                reached = {word + part for word in reached for part in parts if len(word + part) <= longest}
            known[sign] |= reached
    return known


def word_told(grammar, tree):
    """The word of a good tree, as point 24 tells."""
    branches = iter(tree[1])
    right = grammar[1][tree[0]][1]
    return "".join(word_told(grammar, next(branches)) if mark.isupper() else mark for mark in right)


def is_tree_of(grammar, tree, sign):
    """Whether it is a tree of that sign, as point 24 tells."""
    if type(tree) is not tuple or len(tree) != 2 or type(tree[0]) is not int or type(tree[1]) is not tuple:
        return False
    if not 0 <= tree[0] < len(grammar[1]) or grammar[1][tree[0]][0] != sign:
        return False
    signs = [mark for mark in grammar[1][tree[0]][1] if mark.isupper()]
    return len(signs) == len(tree[1]) and all(map(is_tree_of, [grammar] * len(signs), tree[1], signs))


def long_of(some, other=2):
    """How many numbers the set's tallies have; for the set of no fans, which tells none, other."""
    return len(some[0][0]) if some else other


def check_refused(test, refusal, call, *things):
    """The call refuses these things with that refusal, and with no other one."""
    with test.assertRaises(TallyError) as caught:
        call(*things)
    test.assertIsInstance(caught.exception, ValueError)
    kinds = [kind for kind in REFUSALS if isinstance(caught.exception, kind)]
    test.assertEqual(kinds, [refusal])


def check_same(test, told, expected):
    """Equal, and of the same kinds through and through (1 is not True, a list no tuple)."""
    test.assertEqual(told, expected)
    test.assertEqual(repr(told), repr(expected))
    test.assertIs(type(told), type(expected))


def check_arguments(test, call, *names):
    """The call has just these arguments, in this order."""
    test.assertEqual(tuple(inspect.signature(call).parameters), names)
