"""What is wrong with a standing: hands that stand beside one another, and hands of no use."""

# In the order in which they go ahead of one another.
FAULTS = ("beside", "empty", "asleep")
LOOKS = ("look", "change")


def awake(held):
    """List the entries of what is held whose hands are awake, in their order."""
    # An entry that was lent from no hand names the empty text, which is no hand's word.
    lenders = [entry[3] for entry in held if entry[4]]
    return [entry for entry in held if entry[1] != "pick" and entry[4] and entry[0] not in lenders]


def clash(one, other):
    """Tell whether two hands that are awake may not be so at once."""
    return one[2] == other[2] and "write" in (one[1], other[1])


def beside(held):
    """Tell whether two hands are awake that may not be so at once."""
    hands = awake(held)
    for count, one in enumerate(hands):
        if any(clash(one, other) for other in hands[:count]):
            return True
    return False


def is_gone(held, word):
    """Tell whether this is the word of a hand that is not out."""
    return any(entry[0] == word and not entry[4] for entry in held)


def is_awake(held, word):
    """Tell whether this is the word of a hand that is awake."""
    return any(entry[0] == word for entry in awake(held))


def fault(rows, standing):
    """Answer the word of the fault that a standing at a row has, the empty text for none."""
    at, held = standing
    row = rows[at]
    if beside(held):
        return "beside"
    if row[0] == "lend" and is_gone(held, row[3]):
        return "empty"
    if row[0] in LOOKS and is_gone(held, row[1]):
        return "empty"
    if row[0] in LOOKS and not is_awake(held, row[1]):
        return "asleep"
    return ""
