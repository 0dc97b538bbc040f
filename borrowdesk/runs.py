"""Runs of a sheet: the standings that they come to, step by step.

Each function is told sheets alone, and choices that are whole numbers from nought.
"""

from borrowdesk.blocks import Blocks
from borrowdesk.forms import NAMERS

CHOOSERS = ("pick", "either", "again")


def chooses(row):
    """Tell whether a run takes a choice at the row."""
    return row[0] in CHOOSERS


def picked(row, thing):
    """Answer the entry of a pick whose word stands for this one of its things."""
    return (row[1], "pick", thing, "", True)


def lent(row, held):
    """Answer the entry of a lend, told what is held where it begins."""
    hand, kind, source = row[1:]
    for word, source_kind, thing, _, out in held:
        if word == source:
            lender = "" if source_kind == "pick" else word
            return (hand, kind, thing, lender, out)
    # No word is a thing, so a source that is found nowhere is the thing itself.
    return (hand, kind, source, "", True)


def given_back(held, hand):
    """Answer what is held once the hand, and all that comes from it, is given back."""
    gone = {hand}
    left = []
    # A lender stands ahead of what is lent from it, so one pass finds the whole chain.
    for word, kind, thing, lender, out in held:
        if word in gone or lender in gone:
            gone.add(word)
            left.append((word, kind, thing, lender, False))
        else:
            left.append((word, kind, thing, lender, out))
    return tuple(left)


def ended(rows, blocks, standing):
    """Answer the standing behind an end."""
    at, held = standing
    home = blocks.around[at]
    if rows[home][0] == "again":
        return (home, held)
    if rows[home][0] in NAMERS:
        return (at + 1, held[:-1])
    return (at + 1, held)


def onward(rows, blocks, standing):
    """List the standings in which a run may go on, one for each way, in their order."""
    at, held = standing
    row = rows[at]
    if row[0] == "lend":
        return [(at + 1, held + (lent(row, held),))]
    if row[0] == "pick":
        return [(at + 1, held + (picked(row, thing),)) for thing in row[2]]
    if row[0] == "either":
        return [(first, held) for first in blocks.firsts[at]]
    if row[0] == "or":
        return [(blocks.closing[blocks.around[at]], held)]
    if row[0] == "again":
        return [(blocks.closing[at] + 1, held), (at + 1, held)]
    if row[0] == "end":
        return [ended(rows, blocks, standing)]
    if row[0] == "back":
        return [(at + 1, given_back(held, row[1]))]
    return [(at + 1, held)]


def chosen(standings, choice):
    """Answer the one of these standings that a choice tells, however large it is."""
    return standings[choice % len(standings)]


def ways(rows, standing):
    """Tell in how many ways a run may go on from a standing at a row."""
    return len(onward(rows, Blocks(rows), standing))


def stepped(rows, standing, choice):
    """Answer the next standing of a run that goes on by this choice."""
    return chosen(onward(rows, Blocks(rows), standing), choice)


def account(rows, choices):
    """List the standings at rows to which the run by these choices comes, in turn."""
    blocks = Blocks(rows)
    standings = []
    standing = (0, ())
    taken = 0
    while standing[0] < len(rows):
        standings.append(standing)
        choice = 0
        if chooses(rows[standing[0]]):
            if taken < len(choices):
                choice = choices[taken]
            taken += 1
        standing = chosen(onward(rows, blocks, standing), choice)
    return standings
