"""Points 6, 7, 9 and 10: standings, steps and runs."""

import copy
import random
import unittest

from borrowdesk.runs import account, stepped, ways
from sheets import (
    AGAIN, EITHER, END, OR, Reader, back, change, hand, lend, look, pick, refusal, sheets_by_chance, small_sheets,
    taken,
)

VAST = 3 ** 130


class Case(unittest.TestCase):
    def goes(self, rows, standing, *wanted):
        """From the standing a run goes on in just these ways, by small choices and by large ones."""
        self.assertIsNone(refusal(rows), rows)
        many = len(wanted)
        told = ways(rows, standing)
        self.assertEqual(told, many)
        self.assertIs(type(told), int)
        for choice in list(range(3 * many)) + [VAST * many + way for way in range(many)]:
            after = stepped(rows, standing, choice)
            self.assertEqual(after, wanted[choice % many], choice)
            self.is_standing(after)

    def is_standing(self, standing):
        self.assertIs(type(standing), tuple)
        at, held = standing
        self.assertIs(type(at), int)
        self.assertIs(type(held), tuple)
        for entry in held:
            self.assertIs(type(entry), tuple)
            self.assertEqual([type(part) for part in entry], [str, str, int, str, bool])


class Lends(Case):
    def test_from_a_thing(self):
        for kind in ("read", "write"):
            for thing in (0, 1, 999999999):
                rows = [lend("a", kind, thing), END]
                self.goes(rows, (0, ()), (1, (hand("a", kind, thing),)))

    def test_from_a_pick(self):
        rows = [pick("p", (4, 7)), lend("a", "write", "p"), END, END]
        for thing in (4, 7):
            self.goes(rows, (1, (taken("p", thing),)), (2, (taken("p", thing), hand("a", "write", thing))))

    def test_from_a_hand_that_is_out(self):
        rows = [lend("a", "write", 5), lend("b", "read", "a"), END, END]
        held = (hand("a", "write", 5),)
        self.goes(rows, (1, held), (2, held + (hand("b", "read", 5, "a"),)))

    def test_from_a_hand_that_is_not(self):
        rows = [lend("a", "write", 5), back("a"), lend("b", "write", "a"), END, END]
        held = (hand("a", "write", 5, out=False),)
        self.goes(rows, (2, held), (3, held + (hand("b", "write", 5, "a", False),)))

    def test_from_a_hand_that_was_lent_from_a_pick_or_from_a_hand(self):
        rows = [pick("p", (8,)), lend("a", "write", "p"), lend("b", "write", "a"), lend("c", "read", "b")] + [END] * 4
        held = (taken("p", 8), hand("a", "write", 8))
        self.goes(rows, (2, held), (3, held + (hand("b", "write", 8, "a"),)))
        held = held + (hand("b", "write", 8, "a"),)
        self.goes(rows, (3, held), (4, held + (hand("c", "read", 8, "b"),)))

    def test_the_word_told_of_several_is_that_of_the_source(self):
        rows = [lend("a", "write", 3), lend("b", "write", 4), lend("c", "write", "a"), END, END, END]
        held = (hand("a", "write", 3), hand("b", "write", 4, out=False))
        self.goes(rows, (2, held), (3, held + (hand("c", "write", 3, "a"),)))

    def test_of_one_thing_beside_a_hand_that_is_not_out(self):
        rows = [lend("a", "write", 3), back("a"), lend("b", "write", 3), END, END]
        held = (hand("a", "write", 3, out=False),)
        self.goes(rows, (2, held), (3, held + (hand("b", "write", 3),)))

    def test_from_a_hand_that_is_asleep(self):
        rows = [lend("a", "write"), lend("b", "write", "a"), lend("c", "read", "a"), END, END, END]
        held = (hand("a", "write"), hand("b", "write", 1, "a"))
        self.goes(rows, (2, held), (3, held + (hand("c", "read", 1, "a"),)))


class Picks(Case):
    def test_of_one_thing(self):
        self.goes([pick("p", (6,)), END], (0, ()), (1, (taken("p", 6),)))

    def test_of_several(self):
        rows = [pick("p", (3, 1, 2, 5, 4)), END]
        self.goes(rows, (0, ()), *[(1, (taken("p", thing),)) for thing in (3, 1, 2, 5, 4)])

    def test_of_like_things(self):
        rows = [pick("p", (2, 2, 9)), END]
        self.goes(rows, (0, ()), *[(1, (taken("p", thing),)) for thing in (2, 2, 9)])

    def test_within_other_blocks(self):
        rows = [lend("a"), pick("p", (1, 2)), END, END]
        held = (hand("a", out=False),)
        self.goes(rows, (1, held), (2, held + (taken("p", 1),)), (2, held + (taken("p", 2),)))


class Eithers(Case):
    held = (hand("a"),)

    def test_with_no_or(self):
        self.goes([EITHER, END], (0, ()), (1, ()))
        self.goes([EITHER, AGAIN, END, END], (0, ()), (1, ()))

    def test_with_one(self):
        self.goes([EITHER, OR, END], (0, ()), (1, ()), (2, ()))
        rows = [lend("a"), EITHER, look("a"), OR, back("a"), END, END]
        self.goes(rows, (1, self.held), (2, self.held), (4, self.held))

    def test_with_several(self):
        rows = [lend("a"), EITHER, OR, look("a"), OR, EITHER, OR, END, OR, END, END]
        self.goes(rows, (1, self.held), *[(at, self.held) for at in (2, 3, 5, 9)])
        self.goes(rows, (5, self.held), (6, self.held), (7, self.held))

    def test_with_very_many(self):
        rows = [EITHER] + [OR] * 150 + [END]
        self.goes(rows, (0, ()), *[(at, ()) for at in range(1, 152)])

    def test_an_or_goes_to_the_end_of_its_either(self):
        rows = [lend("a"), EITHER, OR, EITHER, OR, OR, END, OR, END, END]
        for at, last in ((2, 8), (4, 6), (5, 6), (7, 8)):
            self.goes(rows, (at, self.held), (last, self.held))

    def test_its_end_goes_to_the_next_row(self):
        self.goes([lend("a"), EITHER, OR, END, END], (3, self.held), (4, self.held))
        self.goes([EITHER, END], (1, ()), (2, ()))


class Agains(Case):
    def test_past_its_end_and_into_its_block(self):
        rows = [lend("a"), AGAIN, look("a"), END, END]
        held = (hand("a"),)
        self.goes(rows, (1, held), (4, held), (2, held))

    def test_by_choice_nought_one_two_and_three(self):
        rows = [AGAIN, AGAIN, END, END]
        self.assertEqual([stepped(rows, (0, ()), choice)[0] for choice in range(4)], [4, 1, 4, 1])
        self.assertEqual([stepped(rows, (1, ()), choice)[0] for choice in range(4)], [3, 2, 3, 2])

    def test_its_end_goes_to_the_again(self):
        rows = [lend("a"), AGAIN, EITHER, AGAIN, END, END, END, END]
        held = (hand("a"),)
        self.goes(rows, (4, held), (3, held))
        self.goes(rows, (6, held), (1, held))

    def test_an_empty_one(self):
        self.goes([AGAIN, END], (0, ()), (2, ()), (1, ()))
        self.goes([AGAIN, END], (1, ()), (0, ()))


class EndsOfHeldBlocks(Case):
    def test_of_a_lend(self):
        self.goes([lend("a"), END], (1, (hand("a"),)), (2, ()))
        self.goes([lend("a"), END], (1, (hand("a", out=False),)), (2, ()))

    def test_of_a_pick(self):
        self.goes([pick("p"), END], (1, (taken("p"),)), (2, ()))

    def test_the_last_entry_alone_is_taken_away(self):
        rows = [pick("p"), lend("a", "write", "p"), lend("b", "read", "a"), pick("q", (2, 3))] + [END] * 4
        held = (taken("p"), hand("a", "write"), hand("b", "read", 1, "a"), taken("q", 3))
        for gone in range(4):
            self.goes(rows, (4 + gone, held[:4 - gone]), (5 + gone, held[:3 - gone]))

    def test_what_it_was_lent_from_stays_as_it_is(self):
        rows = [lend("a", "write"), lend("b", "read", "a"), END, END]
        for out in (True, False):
            held = (hand("a", "write", out=out),)
            self.goes(rows, (2, held + (hand("b", "read", 1, "a", False),)), (3, held))


class Backs(Case):
    def returned(self, held, word, wanted):
        """A sheet with these hands, the outermost first, and a back of one of them."""
        rows = []
        for name, kind, thing, lender, _ in held:
            rows.append(("pick", name, (thing,)) if kind == "pick" else ("lend", name, kind, lender or thing))
        at = len(rows)
        rows = rows + [back(word)] + [END] * at
        self.goes(rows, (at, held), (at + 1, wanted))

    def test_alone(self):
        self.returned((hand("a"),), "a", (hand("a", out=False),))

    def test_one_that_is_not_out(self):
        held = (hand("a", out=False),)
        self.returned(held, "a", held)

    def test_with_hands_that_were_lent_from_it_and_from_these(self):
        held = (
            hand("a", "write"), hand("b", "write", 1, "a"), hand("c", "write", 1, "b"), hand("d", "read", 1, "c"),
            hand("e", "read", 1, "a"),
        )
        for word, gone in (("a", "abcde"), ("b", "bcd"), ("c", "cd"), ("d", "d"), ("e", "e")):
            wanted = tuple(entry[:4] + (entry[0] not in gone,) for entry in held)
            self.returned(held, word, wanted)

    def test_beside_others_that_stay_out(self):
        held = (
            taken("p", 1), hand("a", "write"), hand("b", "write", 1), hand("c", "read", 1, "b"), taken("q", 1),
            hand("d", "read", 1, "a"),
        )
        wanted = held[:1] + (hand("a", "write", out=False),) + held[2:5] + (hand("d", "read", 1, "a", False),)
        self.returned(held, "a", wanted)
        wanted = held[:2] + (hand("b", "write", out=False), hand("c", "read", 1, "b", False)) + held[4:]
        self.returned(held, "b", wanted)

    def test_what_is_not_out_already_stays_so(self):
        held = (hand("a", "write"), hand("b", "write", 1, "a", False), hand("c", "read", 1, "b", False), hand("d"))
        self.returned(held, "a", (hand("a", "write", out=False),) + held[1:])
        self.returned(held, "b", held)
        self.returned(held, "d", held[:3] + (hand("d", out=False),))

    def test_it_stays_so_up_to_the_end_of_its_block(self):
        rows = [lend("a", "write"), back("a"), look("a"), change("a"), AGAIN, END, END]
        self.assertEqual({standing[1] for standing in account(rows, [1])[2:]}, {(hand("a", "write", out=False),)})


class Looks(Case):
    def test_a_look_and_a_change_go_to_the_next_row(self):
        for out in (True, False):
            held = (hand("a", "write", out=out),)
            for row in (look("a"), change("a")):
                self.goes([lend("a", "write"), row, END], (1, held), (2, held))

    def test_also_with_a_fault(self):
        rows = [lend("a", "write"), lend("b", "write", "a"), change("a"), END, END]
        held = (hand("a", "write"), hand("b", "write", 1, "a"))
        self.goes(rows, (2, held), (3, held))


class Accounts(Case):
    def numbers(self, rows, choices):
        self.assertIsNone(refusal(rows), rows)
        return [at for at, _ in account(rows, choices)]

    def test_the_empty_sheet(self):
        self.assertEqual(account([], []), [])
        self.assertEqual(account([], [1, 2, 3]), [])

    def test_a_straight_run(self):
        rows = [pick("p", (4, 5)), lend("a", "write", "p"), back("a"), lend("b", "read", "a"), END, END, END]
        given = (taken("p", 5), hand("a", "write", 5, out=False))
        self.assertEqual(account(rows, [3]), [
            (0, ()),
            (1, (taken("p", 5),)),
            (2, (taken("p", 5), hand("a", "write", 5))),
            (3, given),
            (4, given + (hand("b", "read", 5, "a", False),)),
            (5, given),
            (6, (taken("p", 5),)),
        ])

    def test_choices_that_run_out(self):
        rows = [pick("p", (4, 5)), pick("q", (6, 7)), EITHER, OR, AGAIN, END, END, END, END]
        self.assertEqual(account(rows, [1])[-1], (8, (taken("p", 5),)))
        self.assertEqual(account(rows, [1])[2], (2, (taken("p", 5), taken("q", 6))))
        self.assertEqual(self.numbers(rows, [1]), [0, 1, 2, 3, 6, 7, 8])
        self.assertEqual(self.numbers(rows, [1, 0, 1]), [0, 1, 2, 4, 6, 7, 8])
        self.assertEqual(account(rows, []), account(rows, [0, 0, 0, 0]))

    def test_more_choices_than_are_taken(self):
        rows = [EITHER, OR, AGAIN, END, END]
        self.assertEqual(self.numbers(rows, [1, 0, 1, 1, 1]), [0, 2, 4])
        self.assertEqual(self.numbers([lend(), END], [1, 1]), [0, 1])

    def test_a_pick_of_one_thing_takes_a_choice(self):
        rows = [pick("p", (4,)), pick("q", (6, 7)), END, END]
        self.assertEqual(account(rows, [1, 0])[2][1], (taken("p", 4), taken("q", 6)))
        self.assertEqual(account(rows, [0, 1])[2][1], (taken("p", 4), taken("q", 7)))

    def test_an_either_without_an_or_takes_a_choice(self):
        rows = [EITHER, END, EITHER, OR, END]
        self.assertEqual(self.numbers(rows, [1, 0]), [0, 1, 2, 3, 4])
        self.assertEqual(self.numbers(rows, [0, 1]), [0, 1, 2, 4])

    def test_no_other_row_takes_one(self):
        rows = [lend("a", "write"), look(), change(), back(), EITHER, OR, END, AGAIN, END, EITHER, OR, END, END]
        self.assertEqual(self.numbers(rows, [0, 1, 0, 1]), [0, 1, 2, 3, 4, 5, 6, 7, 8, 7, 9, 11, 12])

    def test_an_or_and_the_end_of_an_again_take_none(self):
        rows = [AGAIN, EITHER, OR, END, END, EITHER, OR, END]
        self.assertEqual(self.numbers(rows, [1, 0, 0, 1]), [0, 1, 2, 3, 4, 0, 5, 7])

    def test_an_again_takes_one_each_time(self):
        rows = [AGAIN, pick("p", (4, 5)), END, END]
        seen = account(rows, [1, 0, 1, 1, 3, 0])
        self.assertEqual([at for at, _ in seen], [0] + [1, 2, 3, 0] * 3)
        self.assertEqual([held for at, held in seen if at == 2], [(taken("p", thing),) for thing in (4, 5, 4)])

    def test_loops_that_go_round_several_times(self):
        self.assertEqual(self.numbers([AGAIN, END], [1] * 500), [0] + [1, 0] * 500)
        rows = [AGAIN, AGAIN, END, END]
        self.assertEqual(self.numbers(rows, [1, 1, 1, 0, 1, 1]), [0, 1, 2, 1, 2, 1, 3, 0, 1, 2, 1, 3, 0])

    def test_what_a_round_leaves_holds_in_the_next(self):
        rows = [lend("a"), AGAIN, look("a"), back("a"), END, END]
        seen = account(rows, [1, 1, 0])
        self.assertEqual([held[0][4] for at, held in seen if at == 2], [True, False])

    def test_a_lend_begins_anew_in_each_round(self):
        rows = [AGAIN, lend("a"), back("a"), END, END]
        seen = account(rows, [1, 1])
        self.assertEqual([held for at, held in seen if at == 2], [(hand("a"),)] * 2)

    def test_a_run_goes_on_behind_faults(self):
        rows = [lend("a", "write"), back("a"), look("a"), lend("b", "write", "a"), change("a"), END, END]
        self.assertEqual(self.numbers(rows, []), list(range(7)))
        rows = [lend("a", "write"), lend("b", "read"), lend("c", "read", "a"), change("a"), END, END, END]
        self.assertEqual(self.numbers(rows, []), list(range(7)))

    def test_very_large_choices(self):
        rows = [pick("p", (4, 5, 6)), EITHER, OR, END, AGAIN, END, END]
        seen = account(rows, [3 * VAST + 2, 2 * VAST + 1, 2 * VAST + 1, 2 * VAST])
        self.assertEqual(seen[1][1], (taken("p", 6),))
        self.assertEqual([at for at, _ in seen], [0, 1, 3, 4, 5, 4, 6])

    def test_a_long_run(self):
        rows = [AGAIN, lend("a", "write"), change("a"), END, END]
        self.assertEqual(len(account(rows, [1] * 20000)), 1 + 5 * 20000)

    def test_a_sheet_somewhat_beyond_the_limits(self):
        rows = [lend(word, "write", source) for word, source in zip("abcdefghij", [1] + list("abcdefghi"))]
        rows = rows + [back("a")] + [look("j")] * 300 + [END] * 10
        self.assertEqual(account(rows, [])[311][1][9], hand("j", "write", 1, "i", False))


class AgainstAReaderOfItsOwn(Case):
    def test_sheets_by_chance(self):
        chance = random.Random(7)
        for rows in sheets_by_chance(1, 1500, 16):
            for _ in range(3):
                choices = [chance.randint(0, 12) for _ in range(chance.randint(0, 8))]
                self.assertEqual(account(rows, choices), Reader(rows, choices).seen, (rows, choices))

    def test_every_small_sheet(self):
        some = (lend("a", "write"), lend("b", "read", "a"), pick("a", (1, 2)), EITHER, OR, AGAIN, END, back("a"))
        for rows in small_sheets(some, 6):
            for choices in ([], [1, 1], [1, 0, 1, 1], [2, 3, 1]):
                self.assertEqual(account(rows, choices), Reader(rows, choices).seen, (rows, choices))

    def test_an_account_goes_step_by_step(self):
        for rows in sheets_by_chance(2, 200, 14):
            choices = [1, 2, 1, 0, 3, 1]
            seen = account(rows, choices) + [(len(rows), ())]
            for before, after in zip(seen, seen[1:]):
                choice = choices.pop(0) if rows[before[0]][0] in ("pick", "either", "again") and choices else 0
                self.assertEqual(stepped(rows, before, choice), after, rows)
                self.is_standing(after)


class NothingHandedInIsChanged(Case):
    def test_rows_choices_and_standings_stay_as_they_were(self):
        rows = [pick("p", (1, 2)), AGAIN, lend("a", "write", "p"), EITHER, back("a"), OR, END, END, END, END]
        choices = [1, 1, 0, 1, 1]
        kept = copy.deepcopy((rows, choices))
        account(rows, choices)
        account(rows, choices)
        for standing in account(rows, choices):
            before = copy.deepcopy(standing)
            for choice in range(3):
                ways(rows, standing)
                stepped(rows, standing, choice)
            self.assertEqual(standing, before)
        self.assertEqual((rows, choices), kept)

    def test_a_changed_answer_changes_no_later_one(self):
        for rows in ([], [lend("a"), END]):
            first = account(rows, [1])
            kept = list(first)
            first.append(None)
            first[0] = None
            self.assertEqual(account(rows, [1]), kept)

    def test_an_account_is_a_list(self):
        self.assertIs(type(account([], [])), list)
        self.assertIs(type(account([lend("a"), END], [])), list)


if __name__ == "__main__":
    unittest.main()
