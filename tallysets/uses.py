"""How often the rules of a grammar are used in its trees, and the fans that come of it.

Rules used so and so often make up a tree of A just where two things hold. Each sign is replaced as
often as it comes up: through the rules, and once more for A, at the top. And each sign that is
replaced comes up below A, through rules that are used, and not only below itself.
"""

from tallysets.balances import column_leasts, column_loops
from tallysets.fans import plain_fan
from tallysets.grammars import signs_in, tally_of
from tallysets.tallies import taken

TOP_SIGN = "A"


def further_links(links, rules):
    """The links with one rule more, through which another sign comes up."""
    further = {}
    for chosen in links:
        signs = links[chosen]
        for number, rule in enumerate(rules):
            fresh = [sign for sign in signs_in(rule[1]) if sign not in signs]
            if rule[0] in signs and len(fresh) > 0:
                further[tuple(sorted(chosen + (number,)))] = tuple(sorted(set(fresh + list(signs))))
    return further


def links_of(rules):
    """Choices of rules' numbers, each with the signs that come up below A through these rules.

    In each tree all rules of one of the choices are used, and no signs but those of that choice.
    """
    links = {}
    fresh = {(): (TOP_SIGN,)}
    while len(fresh) > 0:
        links.update(fresh)
        fresh = further_links(fresh, rules)
    return links


def rules_within(rules, signs):
    """The rules that neither replace another sign nor let one come up."""
    return [rule for rule in rules if all([sign in signs for sign in [rule[0]] + signs_in(rule[1])])]


def column_of(rule, signs):
    """For each of the signs, how many more of it wait to be replaced once the rule is used."""
    return tuple([rule[1].count(sign) - rule[0].count(sign) for sign in signs])


def lack_of(chosen, signs):
    """To what the columns of further rules have to come if A is there and the chosen ones are used."""
    risen = TOP_SIGN + "".join([rule[1] for rule in chosen])
    replaced = "".join([rule[0] for rule in chosen])
    return tuple([replaced.count(sign) - risen.count(sign) for sign in signs])


def linked_fans(grammar, signs, choices):
    """The fans of all trees of just these signs, in which all rules of one of the choices are used."""
    many = grammar[0]
    noughts = (0,) * many
    rules = rules_within(grammar[1], signs)
    columns = [column_of(rule, signs) for rule in rules]
    letters = [tally_of(many, rule[1]) for rule in rules]
    loops = column_loops(columns)
    steps = [taken(noughts, row, letters) for row in loops]
    fans = []
    for choice in choices:
        chosen = [grammar[1][number] for number in choice]
        begin = tally_of(many, "".join([rule[1] for rule in chosen]))
        leasts = column_leasts(columns, lack_of(chosen, signs), loops)
        fans.extend([plain_fan(taken(begin, row, letters), steps) for row in leasts])
    return fans


def fans_of(grammar):
    links = links_of(grammar[1])
    fans = []
    for signs in sorted(set(list(links.values()))):
        choices = [choice for choice in links if links[choice] == signs]
        fans.extend(linked_fans(grammar, signs, choices))
    return fans
