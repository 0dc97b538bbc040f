"""The blocks of a sheet: where each one is opened, parted and ended.

Each function is told sheets alone and answers a new list.
"""

OPENERS = ("lend", "pick", "either", "again")


def opens(row):
    """Tell whether the row opens a block."""
    return row[0] in OPENERS


class Blocks:
    """All blocks of a sheet, read off in one go, for who needs more than one thing of them."""

    def __init__(self, rows):
        self.around = []
        self.closing = [-1] * len(rows)
        self.firsts = {}
        opened = [-1]
        for at, row in enumerate(rows):
            home = opened[-1]
            # An end lies within the block that it ends, a row that opens a block does not.
            self.around.append(home)
            if opens(row):
                opened.append(at)
            if row[0] == "either":
                self.firsts[at] = [at + 1]
            elif row[0] == "or":
                self.firsts[home].append(at + 1)
            elif row[0] == "end":
                self.closing[opened.pop()] = at


def homes(rows):
    """List, for each row, which row opened the innermost block round it, -1 for none."""
    return Blocks(rows).around


def ends(rows):
    """List, for each row, the end of the block that it opens, -1 for none."""
    return Blocks(rows).closing


def branches(rows, at):
    """List the first rows of the branches of the either at row `at`."""
    return Blocks(rows).firsts[at]
