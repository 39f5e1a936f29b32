"""The least rows of counts with which columns of numbers come to a total."""

from tallysets.tallies import at_most, weight


def raised(row, place):
    return row[:place] + (row[place] + 1,) + row[place + 1:]


def without(one, other):
    return tuple([left - right for left, right in zip(one, other)])


def is_above(row, leasts):
    """Whether one of the leasts is at most the row."""
    for least in leasts:
        if at_most(least, row):
            return True
    return False


def grown(level, columns, leasts):
    """The rows of one count more, with what they lack, that may come to a further least row.

    What a row lacks is the sum of the columns that a least row above it takes besides. So, if it
    lacks something, one of these columns weighs above 0 by what it lacks: others can be spared.
    A row that lacks nothing has no such column.
    """
    further = {}
    for row in level:
        lack = level[row]
        for place, column in enumerate(columns):
            if weight(lack, column) > 0:
                longer = raised(row, place)
                if longer not in further and not is_above(longer, leasts):
                    further[longer] = without(lack, column)
    return further


def least_rows(level, columns, leasts):
    """The least ones among the rows that lack nothing and are at or above one of the level's rows.

    The rows of the level have equally many counts in all, and each is there with what it lacks.
    Rows at or above one of the leasts that are handed in are not looked for.
    """
    found = []
    while len(level) > 0:
        found.extend([row for row in level if not any(level[row])])
        level = grown(level, columns, leasts + found)
    return sorted(found)


def column_loops(columns):
    """The least rows, but that of noughts, with which the columns come to noughts."""
    noughts = (0,) * len(columns)
    level = {}
    for place, column in enumerate(columns):
        level[raised(noughts, place)] = tuple([-part for part in column])
    return least_rows(level, columns, [])


def column_leasts(columns, total, loops):
    """The least rows with which the columns come to the total, a tuple; loops are theirs."""
    # A row above a loop is not least: without the loop it comes to as much.
    return least_rows({(0,) * len(columns): total}, columns, loops)


def columns_of(values):
    return [(part,) for part in values]


def loops_of(values):
    return tuple(column_loops(columns_of(values)))


def leasts_of(values, total):
    columns = columns_of(values)
    return tuple(column_leasts(columns, (total,), column_loops(columns)))
