"""Sheets for the tests: rows by short names, all small sheets, sheets by chance, and a reader of its own."""

import random

from borrowdesk.errors import DeskError, NoEnd
from borrowdesk.forms import checked

END = ("end",)
OR = ("or",)
EITHER = ("either",)
AGAIN = ("again",)
OPENERS = ("lend", "pick", "either", "again")


def lend(hand="a", kind="read", source=1):
    return ("lend", hand, kind, source)


def pick(word="p", things=(1,)):
    return ("pick", word, things)


def back(hand="a"):
    return ("back", hand)


def look(hand="a"):
    return ("look", hand)


def change(hand="a"):
    return ("change", hand)


def hand(word="a", kind="read", thing=1, lender="", out=True):
    """The entry of a hand."""
    return (word, kind, thing, lender, out)


def taken(word="p", thing=1):
    """The entry of a pick."""
    return (word, "pick", thing, "", True)


def refusal(rows):
    """The class of a refusal by checked, None for a sheet."""
    try:
        checked(rows)
    except DeskError as told:
        return type(told)
    return None


def small_sheets(some, most):
    """Every sheet of at most so many rows that consists of these rows."""
    grown = [[]]
    while grown:
        longer = []
        for rows in grown:
            told = refusal(rows)
            if told is None:
                yield rows
            if told in (None, NoEnd) and len(rows) < most:
                longer.extend(rows + [row] for row in some)
        grown = longer


def words_at(rows):
    """What each word stands for behind these rows, and the names of the blocks open there."""
    opened = []
    for row in rows:
        if row[0] in OPENERS:
            opened.append(row)
        elif row == END:
            opened.pop()
    meant = {row[1]: row[2] if row[0] == "lend" else "pick" for row in opened if row[0] in ("lend", "pick")}
    return meant, [row[0] for row in opened]


def some_row(chance, rows):
    """A row that may stand behind these rows, ends left out."""
    meant, opened = words_at(rows)
    hands = [word for word in meant if meant[word] != "pick"]
    unused = [word for word in "abcdef" if word not in meant]
    offers = [AGAIN, EITHER]
    if opened and opened[-1] == "either":
        offers.extend([OR, OR])
    if unused:
        things = tuple(chance.randint(1, 2) for _ in range(chance.randint(1, 3)))
        offers.append(pick(chance.choice(unused), things))
        for _ in range(3):
            source = chance.choice([1, 2] + 2 * list(meant))
            kinds = ["read"] if meant.get(source) == "read" else ["read", "write", "write"]
            offers.append(lend(chance.choice(unused), chance.choice(kinds), source))
    for word in hands:
        offers.extend([back(word), look(word)])
        if meant[word] == "write":
            offers.append(change(word))
    return chance.choice(offers)


def sheets_by_chance(seed, count, most):
    """So many sheets of at most about so many rows, the same ones each time."""
    chance = random.Random(seed)
    for _ in range(count):
        rows = []
        wanted = chance.randint(1, most)
        while len(rows) + len(words_at(rows)[1]) < wanted:
            if words_at(rows)[1] and chance.random() < 0.3:
                rows.append(END)
            else:
                rows.append(some_row(chance, rows))
        rows.extend([END] * len(words_at(rows)[1]))
        assert refusal(rows) is None, rows
        yield rows


class Held:
    """A pick or a hand of the reader below."""

    def __init__(self, word, kind, thing, lender, out):
        self.word = word
        self.kind = kind
        self.thing = thing
        self.lender = lender
        self.out = out

    def entry(self):
        return (self.word, self.kind, self.thing, self.lender.word if self.lender else "", self.out)


class Reader:
    """Points 6 to 10 read off again, with the blocks of a sheet as a tree that is walked through."""

    def __init__(self, rows, choices):
        self.rows = rows
        self.choices = list(choices)
        self.held = []
        self.seen = []
        self.run(self.tree(0)[0])

    def tree(self, at):
        """The rows from here up to an or or an end that is not theirs, and the number of that one."""
        nodes = []
        while at < len(self.rows) and self.rows[at] not in (OR, END):
            parts = []
            stop = at
            while self.rows[at][0] in OPENERS and (stop == at or self.rows[stop] == OR):
                inner, stop = self.tree(stop + 1)
                parts.append((inner, stop))
            nodes.append((at, parts, stop))
            at = stop + 1
        return nodes, at

    def note(self, at):
        self.seen.append((at, tuple(held.entry() for held in self.held)))

    def choose(self, many):
        return (self.choices.pop(0) if self.choices else 0) % many

    def give_back(self, given):
        given.out = False
        for held in self.held:
            if held.lender is given:
                self.give_back(held)

    def named(self, word):
        return [held for held in self.held if held.word == word][0]

    def take(self, row):
        if row[0] == "pick":
            return Held(row[1], "pick", row[2][self.choose(len(row[2]))], None, True)
        if isinstance(row[3], int):
            return Held(row[1], row[2], row[3], None, True)
        source = self.named(row[3])
        if source.kind == "pick":
            return Held(row[1], row[2], source.thing, None, True)
        return Held(row[1], row[2], source.thing, source, source.out)

    def run(self, nodes):
        for at, parts, stop in nodes:
            row = self.rows[at]
            self.note(at)
            if row[0] in ("lend", "pick"):
                self.held.append(self.take(row))
                self.run(parts[0][0])
                self.note(stop)
                self.held.pop()
            elif row == EITHER:
                inner, last = parts[self.choose(len(parts))]
                self.run(inner)
                self.note(last)
                if last != stop:
                    self.note(stop)
            elif row == AGAIN:
                while self.choose(2) == 1:
                    self.run(parts[0][0])
                    self.note(stop)
                    self.note(at)
            elif row[0] == "back":
                self.give_back(self.named(row[1]))
