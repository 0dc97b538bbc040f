"""A sheet is looked through before it runs: whether some run of it meets a fault, and where."""

from borrowdesk.blocks import Blocks
from borrowdesk.faults import FAULTS, fault
from borrowdesk.forms import checked
from borrowdesk.runs import chooses, onward


def followed(rows):
    """Answer, for each standing at a row, the standing and the way by which some run first comes to it.

    Nothing that comes later depends on how a standing was come to, so none is followed twice; that also
    ends the rounds of an again.
    """
    blocks = Blocks(rows)
    came = {}
    fresh = []
    if rows:
        came[(0, ())] = None
        fresh.append((0, ()))
    while fresh:
        found = []
        for standing in fresh:
            for way, later in enumerate(onward(rows, blocks, standing)):
                if later[0] < len(rows) and later not in came:
                    came[later] = (standing, way)
                    found.append(later)
        fresh = found
    return came


def first_fault(rows, came):
    """Answer a standing with the fault that is to be told, and its word; None where there is no fault."""
    found = []
    for standing in came:
        word = fault(rows, standing)
        if word != "":
            found.append((standing[0], FAULTS.index(word), standing))
    if not found:
        return None
    _, rank, standing = min(found, key=lambda told: (told[0], told[1]))
    return standing, FAULTS[rank]


def choices_to(rows, came, standing):
    """List the choices of a run that comes to the standing."""
    choices = []
    step = came[standing]
    while step is not None:
        earlier, way = step
        if chooses(rows[earlier[0]]):
            choices.append(way)
        step = came[earlier]
    choices.reverse()
    return choices


def looked(rows):
    """Answer None where the sheet is let by, else the row, the word and choices of a run with a fault."""
    checked(rows)
    came = followed(rows)
    told = first_fault(rows, came)
    if told is None:
        return None
    standing, word = told
    return standing[0], word, choices_to(rows, came, standing)
