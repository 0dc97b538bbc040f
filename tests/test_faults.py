"""Points 8 and 11: hands that are awake, and the faults of a standing."""

import copy
import unittest

from borrowdesk.faults import awake, fault
from borrowdesk.runs import account
from sheets import (
    AGAIN, EITHER, END, OR, back, change, hand, lend, look, pick, refusal, sheets_by_chance, taken,
)


def words(held):
    return [entry[0] for entry in awake(held)]


class Awake(unittest.TestCase):
    def test_nothing_held(self):
        self.assertEqual(awake(()), [])

    def test_picks_alone(self):
        self.assertEqual(awake((taken("p"), taken("q", 2))), [])

    def test_the_entries_themselves_in_their_order(self):
        held = (hand("c", "write"), taken("p"), hand("a", "read", 2), hand("b", "read", 1))
        self.assertEqual(awake(held), [held[0], held[2], held[3]])

    def test_a_hand_asleep(self):
        held = (hand("a", "write"), hand("b", "read", 1, "a"))
        self.assertEqual(awake(held), [held[1]])

    def test_a_hand_to_read_sleeps_too(self):
        self.assertEqual(words((hand("a"), hand("b", "read", 1, "a"))), ["b"])

    def test_awake_again_when_what_was_lent_from_it_is_not_out(self):
        held = (hand("a", "write"), hand("b", "read", 1, "a", False))
        self.assertEqual(awake(held), [held[0]])

    def test_asleep_while_one_of_several_is_out(self):
        held = (hand("a", "write"), hand("b", "read", 1, "a", False), hand("c", "read", 1, "a"))
        self.assertEqual(words(held), ["c"])

    def test_a_chain_of_three(self):
        chain = (hand("a", "write"), hand("b", "write", 1, "a"), hand("c", "write", 1, "b"))
        self.assertEqual(words(chain), ["c"])
        self.assertEqual(words(chain[:2] + (hand("c", "write", 1, "b", False),)), ["b"])
        gone = (hand("b", "write", 1, "a", False), hand("c", "write", 1, "b", False))
        self.assertEqual(words(chain[:1] + gone), ["a"])

    def test_a_hand_counts_for_its_own_source_alone(self):
        held = (hand("a", "write"), hand("b", "write", 1, "a", False), hand("c", "write", 1, "b"))
        self.assertEqual(words(held), ["a", "c"])

    def test_hands_that_are_not_out(self):
        self.assertEqual(awake((hand("a", out=False),)), [])
        held = (hand("a", out=False), hand("b", "write", 1), hand("c", "read", 2, out=False))
        self.assertEqual(awake(held), [held[1]])

    def test_hands_of_one_thing_from_it_or_from_a_pick_sleep_for_no_other(self):
        held = (taken("p", 1), hand("a", "write"), hand("b", "read"))
        self.assertEqual(words(held), ["a", "b"])

    def test_each_answer_is_a_list_of_its_own(self):
        for held in ((), (hand("a"),)):
            first = awake(held)
            self.assertIs(type(first), list)
            kept = list(first)
            first.append(None)
            self.assertEqual(awake(held), kept)


WRITE_TWICE = (hand("a", "write"), hand("b", "write"))
READ_AND_WRITE = (hand("a", "read"), hand("b", "write"))
WRITE_AND_READ = (hand("a", "write"), hand("b", "read"))
READ_TWICE = (hand("a", "read"), hand("b", "read"))


class Case(unittest.TestCase):
    def has(self, word, held, *inner):
        """The first of the inner rows has this fault, where these are the hands and picks round it."""
        rows = []
        for name, kind, thing, lender, _ in held:
            rows.append(("pick", name, (thing,)) if kind == "pick" else ("lend", name, kind, lender or thing))
        at = len(rows)
        rows = rows + list(inner) + [END] * at
        self.assertIsNone(refusal(rows), rows)
        self.assertEqual(fault(rows, (at, held)), word, (rows, at, held))

    def at_each_row(self, word, held):
        """A row of each kind that uses no hand has this fault."""
        self.has(word, held)
        self.has(word, held, lend("e", "write", 9), END)
        self.has(word, held, pick("e", (1,)), END)
        self.has(word, held, EITHER, OR, END)
        self.has(word, held, AGAIN, END)


class Beside(Case):
    def test_at_each_row_that_uses_no_hand(self):
        for held in (WRITE_TWICE, READ_AND_WRITE, WRITE_AND_READ):
            self.at_each_row("beside", held)

    def test_at_each_row_that_uses_one(self):
        for row in (back("a"), look("a"), change("a"), look("b")):
            self.has("beside", WRITE_AND_READ, row)
        self.has("beside", WRITE_AND_READ, lend("c", "read", "a"), END)

    def test_at_an_or_and_at_the_ends_of_an_either_and_an_again(self):
        rows = [lend("a", "write"), lend("b"), EITHER, OR, END, AGAIN, END, pick("p"), END, END, END]
        self.assertIsNone(refusal(rows))
        for at in (2, 3, 4, 5, 6, 7, 9):
            self.assertEqual(fault(rows, (at, WRITE_AND_READ)), "beside")
        self.assertEqual(fault(rows, (8, WRITE_AND_READ + (taken("p"),))), "beside")
        self.assertEqual(fault(rows, (10, WRITE_AND_READ[:1])), "")

    def test_not_at_the_lend_that_brings_it_but_behind_it(self):
        rows = [lend("a", "write"), lend("b"), END, END]
        self.assertEqual([fault(rows, standing) for standing in account(rows, [])], ["", "", "beside", ""])

    def test_two_hands_to_read_of_one_thing_are_none(self):
        self.at_each_row("", READ_TWICE)
        self.at_each_row("", READ_TWICE + (hand("c", "read"),))

    def test_hands_of_two_things_are_none(self):
        self.at_each_row("", (hand("a", "write", 1), hand("b", "write", 2), hand("c", "read", 3)))

    def test_any_two_of_several(self):
        self.at_each_row("beside", (hand("a", "read", 1), hand("b", "read", 2), hand("c", "write", 1)))
        self.at_each_row("beside", (hand("a", "write", 2), taken("p"), hand("b", "read", 1), hand("c", "read", 2)))
        self.at_each_row("beside", (hand("a", "write", 3), hand("b", "read", 1), hand("c", "write", 1)))

    def test_by_a_pick_of_the_same_thing(self):
        self.at_each_row("beside", (taken("p", 4), hand("a", "read", 4), hand("b", "write", 4)))
        self.at_each_row("", (taken("p", 4), hand("a", "write", 4)))
        self.at_each_row("", (taken("p", 4), taken("q", 4), hand("a", "write", 4)))

    def test_a_hand_beside_the_one_that_it_was_lent_from_which_sleeps(self):
        self.at_each_row("", (hand("a", "write"), hand("b", "write", 1, "a")))
        self.at_each_row("", (hand("a", "write"), hand("b", "write", 1, "a"), hand("c", "read", 1, "b")))

    def test_two_hands_lent_from_one(self):
        first = (hand("a", "write"), hand("b", "read", 1, "a"))
        self.at_each_row("", first + (hand("c", "read", 1, "a"),))
        self.at_each_row("beside", first + (hand("c", "write", 1, "a"),))

    def test_a_hand_beside_one_lent_from_another(self):
        held = (hand("a", "write"), hand("b", "read", 1, "a"))
        self.at_each_row("", held + (hand("c", "read"),))
        self.at_each_row("beside", held + (hand("c", "write"),))

    def test_hands_that_are_not_out_are_beside_none(self):
        self.at_each_row("", (hand("a", "write", out=False), hand("b", "write")))
        self.at_each_row("", (hand("a", "write"), hand("b", "write", out=False)))
        self.at_each_row("", (hand("a", "write"), hand("b", "read", 1, "a", False)))


class Empty(Case):
    gone = (hand("a", "write", out=False),)

    def test_a_look_and_a_change_by_a_hand_that_is_not_out(self):
        self.has("empty", self.gone, look("a"))
        self.has("empty", self.gone, change("a"))
        self.has("empty", (hand("a", "read", out=False),), look("a"))

    def test_a_lend_from_a_hand_that_is_not_out(self):
        self.has("empty", self.gone, lend("b", "read", "a"), END)
        self.has("empty", self.gone, lend("b", "write", "a"), END)

    def test_a_back_of_one_that_is_not_out_is_no_fault(self):
        self.has("", self.gone, back("a"))

    def test_at_rows_that_use_no_hand(self):
        self.at_each_row("", self.gone)

    def test_another_hand_is_not_empty(self):
        held = self.gone + (hand("b", "write", 2), taken("p", 1))
        self.has("", held, look("b"))
        self.has("", held, change("b"))
        self.has("", held, lend("c", "write", "b"), END)
        self.has("", held, lend("c", "write", "p"), END)
        self.has("", held, lend("c", "write", 1), END)
        self.has("empty", held, look("a"))

    def test_ahead_of_asleep(self):
        held = (hand("a", "write", out=False), hand("b", "read", 1, "a"))
        self.has("empty", held, look("a"))
        self.has("empty", held, change("a"))

    def test_beside_ahead_of_empty(self):
        held = self.gone + (hand("b", "write", 2), hand("c", "read", 2))
        self.has("beside", held, look("a"))
        self.has("beside", held, change("a"))
        self.has("beside", held, lend("d", "read", "a"), END)


class Asleep(Case):
    held = (hand("a", "write"), hand("b", "write", 1, "a"))

    def test_a_look_and_a_change_by_a_hand_that_is_asleep(self):
        self.has("asleep", self.held, look("a"))
        self.has("asleep", self.held, change("a"))
        self.has("asleep", (hand("a"), hand("b", "read", 1, "a")), look("a"))

    def test_by_each_hand_of_a_chain(self):
        chain = self.held + (hand("c", "write", 1, "b"),)
        for word, told in (("a", "asleep"), ("b", "asleep"), ("c", "")):
            self.has(told, chain, look(word))
            self.has(told, chain, change(word))

    def test_a_back_and_a_lend_are_no_faults(self):
        self.has("", self.held, back("a"))
        self.has("", (hand("a"), hand("b", "read", 1, "a")), lend("c", "read", "a"), END)
        self.has("", self.held, lend("c", "write", "a"), END)

    def test_awake_again(self):
        held = (hand("a", "write"), hand("b", "write", 1, "a", False))
        self.has("", held, look("a"))
        self.has("", held, change("a"))

    def test_beside_ahead_of_asleep(self):
        held = self.held + (hand("c", "read", 1, "a"),)
        self.has("beside", held, look("a"))
        self.has("beside", held, change("a"))

    def test_at_rows_that_use_no_hand(self):
        self.at_each_row("", self.held)


class NoFault(Case):
    def test_each_use_of_a_hand_that_is_awake(self):
        held = (hand("a", "write"),)
        for row in (look("a"), change("a"), back("a")):
            self.has("", held, row)
        self.has("", held, lend("b", "write", "a"), END)

    def test_nothing_held(self):
        self.at_each_row_of([AGAIN, END, EITHER, OR, END, pick("p"), END, lend("a"), END])

    def at_each_row_of(self, rows):
        for standing in account(rows, [1, 0, 0, 1, 0]):
            self.assertEqual(fault(rows, standing), "")

    def test_what_is_handed_in_stays_as_it_was(self):
        rows = [lend("a", "write"), lend("b", "read", "a"), look("a"), END, END]
        standing = (2, (hand("a", "write"), hand("b", "read", 1, "a")))
        kept = copy.deepcopy((rows, standing))
        self.assertEqual(fault(rows, standing), "asleep")
        awake(standing[1])
        self.assertEqual((rows, standing), kept)


def plainly(rows, at, held):
    """Points 8 and 11, word by word."""
    hands = [entry for entry in held if entry[1] != "pick"]
    out = {entry[0]: entry[4] for entry in hands}
    asleep = {word for word in out if out[word] and any(out[e[0]] and e[3] == word for e in hands)}
    up = [entry for entry in hands if out[entry[0]] and entry[0] not in asleep]
    for one in up:
        for other in up:
            if one[0] != other[0] and one[2] == other[2] and (one[1] == "write" or other[1] == "write"):
                return "beside"
    row = rows[at]
    used = row[1] if row[0] in ("look", "change") else row[3] if row[0] == "lend" else None
    if used in out and not out[used]:
        return "empty"
    return "asleep" if row[0] in ("look", "change") and used in asleep else ""


class AgainstTheWordsOfThePoints(unittest.TestCase):
    def test_sheets_by_chance(self):
        told = {}
        for rows in sheets_by_chance(3, 1500, 16):
            for choices in ([], [1, 0, 1], [1, 1, 1, 1, 1], [2, 1, 0, 1, 2, 1]):
                for at, held in account(rows, choices):
                    word = fault(rows, (at, held))
                    self.assertEqual(word, plainly(rows, at, held), (rows, at, held))
                    told[word] = told.get(word, 0) + 1
        self.assertEqual(sorted(told), ["", "asleep", "beside", "empty"])
        self.assertGreater(min(told.values()), 100)


if __name__ == "__main__":
    unittest.main()
