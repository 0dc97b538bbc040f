"""The blocks of a sheet: where each one is opened, parted and ended.

Each function is told sheets alone and answers a new list.
"""

OPENERS = ("lend", "pick", "either", "again")


def opens(row):
    """Tell whether the row opens a block."""
    return row[0] in OPENERS


def homes(rows):
    """List, for each row, which row opened the innermost block round it, -1 for none."""
    found = []
    opened = [-1]
    for at, row in enumerate(rows):
        # An end lies within the block that it ends, a row that opens a block does not.
        found.append(opened[-1])
        if opens(row):
            opened.append(at)
        elif row[0] == "end":
            opened.pop()
    return found


def ends(rows):
    """List, for each row, the end of the block that it opens, -1 for none."""
    found = [-1] * len(rows)
    for at, home in enumerate(homes(rows)):
        if rows[at][0] == "end":
            found[home] = at
    return found


def branches(rows, at):
    """List the first rows of the branches of the either at row `at`."""
    firsts = [at + 1]
    for place, home in enumerate(homes(rows)):
        if home == at and rows[place][0] == "or":
            firsts.append(place + 1)
    return firsts
