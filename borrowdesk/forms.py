"""What is a sheet, and what is refused as none."""

from borrowdesk.blocks import opens
from borrowdesk.errors import Narrow, NoBlock, NoEnd, NoRow, NoWord, Taken

LETTERS = "abcdefghijklmnopqrstuvwxyz"
LONGEST_WORD = 12
GREATEST_THING = 999999999
MOST_THINGS = 5

KINDS = ("read", "write")
BARE_ROWS = ("either", "or", "again", "end")
USES = ("back", "look", "change")
NAMERS = ("lend", "pick")


def is_word(text):
    """Tell whether this is a word: 1 to 12 letters a to z."""
    if not isinstance(text, str) or not 1 <= len(text) <= LONGEST_WORD:
        return False
    return all(sign in LETTERS for sign in text)


def is_thing(number):
    """Tell whether this is a thing: a whole number from 0 to 999999999."""
    # Python counts True and False among its integers; the sheet does not.
    if isinstance(number, bool) or not isinstance(number, int):
        return False
    return 0 <= number <= GREATEST_THING


def are_things(things):
    """Tell whether these are what a pick has: a tuple of one to five things."""
    if not isinstance(things, tuple) or not 1 <= len(things) <= MOST_THINGS:
        return False
    return all(is_thing(number) for number in things)


def is_lend(rest):
    """Tell whether this may stand behind the name of a lend."""
    if len(rest) != 3:
        return False
    hand, kind, source = rest
    return is_word(hand) and kind in KINDS and (is_thing(source) or is_word(source))


def is_pick(rest):
    """Tell whether this may stand behind the name of a pick."""
    return len(rest) == 2 and is_word(rest[0]) and are_things(rest[1])


def is_use(rest):
    """Tell whether this may stand behind the name of a back, a look or a change."""
    return len(rest) == 1 and is_word(rest[0])


def is_row(row):
    """Tell whether this is one of the rows of a sheet, whatever stands round it."""
    if not isinstance(row, tuple) or len(row) == 0:
        return False
    name = row[0]
    rest = row[1:]
    if name == "lend":
        return is_lend(rest)
    if name == "pick":
        return is_pick(rest)
    if name in USES:
        return is_use(rest)
    return name in BARE_ROWS and len(rest) == 0


def refuse_form(row, at):
    """Refuse what is none of the rows of a sheet."""
    if not is_row(row):
        raise NoRow(at)


def refuse_block(rows, opened, at):
    """Refuse an end and an or that do not fit the innermost open block."""
    name = rows[at][0]
    if name == "end" and len(opened) == 0:
        raise NoBlock(at)
    if name == "or" and (len(opened) == 0 or rows[opened[-1]][0] != "either"):
        raise NoBlock(at)


def refuse_use(meant, row, at):
    """Refuse a back, look or change by no hand, and a change by a hand to read."""
    if row[0] not in USES:
        return
    kind = meant.get(row[1])
    if kind not in KINDS:
        raise NoWord(at)
    if row[0] == "change" and kind == "read":
        raise Narrow(at)


def refuse_naming(meant, row, at):
    """Refuse a lend or a pick for its source or for its own word."""
    if row[0] not in NAMERS:
        return
    lends = row[0] == "lend"
    if lends and is_word(row[3]) and row[3] not in meant:
        raise NoWord(at)
    if row[1] in meant:
        raise Taken(at)
    # Nothing is meant by a thing, so a source that is one passes here.
    if lends and row[2] == "write" and meant.get(row[3]) == "read":
        raise Narrow(at)


def bind(meant, row):
    """Let the word of a lend or of a pick stand for what the row gives it."""
    if row[0] == "lend":
        meant[row[1]] = row[2]
    elif row[0] == "pick":
        meant[row[1]] = "pick"


def free(meant, row):
    """Let the word of a lend or of a pick stand for nothing again."""
    if row[0] in NAMERS:
        del meant[row[1]]


def checked(rows):
    """Answer None for a sheet; refuse what is none, by the first row at fault."""
    opened = []
    # What each word stands for at the row: "read" or "write" for a hand, else "pick".
    meant = {}
    for at, row in enumerate(rows):
        refuse_form(row, at)
        refuse_block(rows, opened, at)
        refuse_use(meant, row, at)
        refuse_naming(meant, row, at)
        if opens(row):
            opened.append(at)
            bind(meant, row)
        elif row[0] == "end":
            free(meant, rows[opened.pop()])
    if opened:
        raise NoEnd(opened[-1])
