"""Points 12 and 13: sheets that are looked through."""

import copy
import time
import unittest

from borrowdesk.errors import DeskError, Narrow, NoBlock, NoEnd, NoRow, NoWord, Taken
from borrowdesk.faults import FAULTS, fault
from borrowdesk.forms import checked
from borrowdesk.looking import looked
from borrowdesk.runs import account, stepped, ways
from sheets import AGAIN, EITHER, END, OR, back, change, lend, look, pick, sheets_by_chance, small_sheets

LOOKS_IN_GOOD_TIME = 2


def all_standings(rows):
    """All standings at rows that some run comes to, followed by ways and stepped alone."""
    found = [(0, ())] if rows else []
    known = set(found)
    for standing in found:
        for choice in range(ways(rows, standing)):
            after = stepped(rows, standing, choice)
            if after[0] < len(rows) and after not in known:
                known.add(after)
                found.append(after)
    return found


def first_fault(rows):
    """The row and the word that are to be told, None for a sheet that is let by."""
    told = [(at, FAULTS.index(fault(rows, (at, held)))) for at, held in all_standings(rows)
            if fault(rows, (at, held))]
    return (min(told)[0], FAULTS[min(told)[1]]) if told else None


class Case(unittest.TestCase):
    def tells(self, rows, at, word):
        """The sheet is told with this row and word, and with choices of a run that comes there."""
        self.assertIsNone(checked(rows), rows)
        told = looked(rows)
        self.assertIs(type(told), tuple, rows)
        self.assertEqual(told[:2], (at, word), rows)
        self.assertEqual([type(part) for part in told], [int, str, list])
        for choice in told[2]:
            self.assertIs(type(choice), int)
            self.assertGreaterEqual(choice, 0)
        met = [fault(rows, standing) for standing in account(rows, told[2]) if standing[0] == at]
        self.assertIn(word, met, (rows, told))

    def lets_by(self, rows):
        self.assertIsNone(checked(rows), rows)
        self.assertIsNone(looked(rows), rows)


class LetBy(Case):
    def test_the_empty_sheet(self):
        self.lets_by([])

    def test_blocks_that_hold_nothing(self):
        self.lets_by([EITHER, OR, AGAIN, END, END, pick("p", (1, 1)), END])

    def test_each_use_of_a_hand(self):
        self.lets_by([lend("a", "write"), look(), change(), lend("b", "read", "a"), look("b"), END, change(), back(),
                      END])

    def test_hands_to_read_of_one_thing(self):
        self.lets_by([lend("a"), lend("b"), lend("c", "read", "a"), look("c"), look("b"), END, look(), END, END])

    def test_a_hand_that_is_given_back_ahead_of_another(self):
        self.lets_by([lend("a", "write"), back(), lend("b", "write"), change("b"), END, END])

    def test_what_no_round_of_an_again_does(self):
        self.lets_by([AGAIN, lend("a", "write"), change(), back(), back(), END, END])

    def test_branches_that_never_meet(self):
        rows = [lend("a", "write"), EITHER, change(), back(), OR, look(), back(), END, lend("b", "write"), END, END]
        self.lets_by(rows)

    def test_picks_of_other_things(self):
        self.lets_by([pick("p", (1, 2)), pick("q", (3, 4)), lend("a", "write", "p"), lend("b", "write", "q"),
                      change(), change("b"), END, END, END, END])


class EachWord(Case):
    def test_beside(self):
        self.tells([lend("a", "write"), lend("b", "read"), END, END], 2, "beside")
        self.tells([lend("a", "read"), lend("b", "write"), back("b"), END, END], 2, "beside")
        self.tells([pick("p", (4,)), lend("a", "write", "p"), lend("b", "read", 4), look("b"), END, END, END], 3,
                   "beside")

    def test_empty(self):
        self.tells([lend("a", "write"), back(), look(), END], 2, "empty")
        self.tells([lend("a", "write"), back(), change(), END], 2, "empty")
        self.tells([lend("a", "write"), back(), lend("b", "read", "a"), END, END], 2, "empty")
        self.tells([lend("a", "write"), lend("b", "write", "a"), back("a"), change("b"), END, END], 3, "empty")

    def test_asleep(self):
        self.tells([lend("a", "write"), lend("b", "read", "a"), look(), END, END], 2, "asleep")
        self.tells([lend("a", "write"), lend("b", "write", "a"), change(), END, END], 2, "asleep")

    def test_at_row_numbers_of_an_or_and_of_ends(self):
        rows = [lend("a", "write"), EITHER, back(), OR, END, END]
        self.lets_by(rows)
        self.tells([lend("a"), lend("b", "write")] + [END] * 2, 2, "beside")
        rows = [lend("a", "write"), back(), AGAIN, END, lend("b", "write"), END, END]
        self.lets_by(rows)
        self.tells([lend("a", "write"), lend("b", "write", "a"), EITHER, back("b"), OR, END, look(), END, END], 6,
                   "asleep")

    def test_at_row_nought_there_is_none(self):
        self.lets_by([lend("a"), END])


class WhichRow(Case):
    def test_the_least_of_several_of_one_run(self):
        self.tells([lend("a", "write"), back(), look(), look(), change(), END], 2, "empty")
        self.tells([lend("a", "write"), lend("b", "read", "a"), look(), END, back(), look(), END], 2, "asleep")

    def test_a_later_row_of_a_word_that_goes_ahead_is_not_told(self):
        rows = [lend("a", "write"), lend("b", "read", "a"), look(), back(), look(), lend("c", "write"),
                lend("d", "write"), END, END, END, END]
        self.tells(rows, 2, "asleep")

    def test_where_a_run_meets_the_later_row_first(self):
        rows = [lend("a", "write"), AGAIN, EITHER, look(), OR, back(), look(), END, END, END]
        self.tells(rows, 3, "empty")
        rows = [lend("a", "write"), lend("b", "write", "a"), AGAIN, change("b"), change("a"), back("b"), END, END, END]
        self.tells(rows, 3, "empty")

    def test_where_each_branch_has_one(self):
        rows = [lend("a", "write"), back(), EITHER, back(), back(), look(), OR, look(), END, END]
        self.tells(rows, 5, "empty")


class WhichWord(Case):
    def test_beside_ahead_of_the_others(self):
        for hand in ("a", "b"):
            rows = [lend("a", "write"), lend("b", "write", "a"), EITHER, back("a"), OR, OR, back("b"), END,
                    pick("p", (1, 2)), lend("c", "read", "p"), look(hand), END, END, END, END]
            self.tells(rows, 10, "beside")

    def test_empty_ahead_of_asleep(self):
        rows = [lend("a", "write"), lend("b", "write", "a"), EITHER, OR, back("a"), OR, back("b"), END, look("a"),
                END, END]
        self.tells(rows, 8, "empty")
        rows[3:6] = [back("a"), OR, OR]
        self.tells(rows, 8, "empty")

    def test_beside_ahead_of_empty(self):
        rows = [lend("a", "write"), EITHER, OR, back("a"), END, pick("p", (2, 1)), lend("b", "write", "p"), look("a"),
                END, END, END]
        self.tells(rows, 7, "beside")

    def test_asleep_where_no_run_has_another(self):
        rows = [lend("a", "write"), lend("b", "write", "a"), EITHER, OR, back("b"), END, look("a"), END, END]
        self.tells(rows, 6, "asleep")


class OnlySomeRuns(Case):
    def test_in_the_second_round(self):
        self.tells([lend("a"), AGAIN, look(), back(), END, END], 2, "empty")

    def test_in_the_third_round(self):
        rows = [lend("a", "write"), lend("b", "write", "a"), lend("c", "write", "b"), AGAIN, EITHER, change("c"), OR,
                END, END] + [END] * 3
        self.lets_by(rows)
        rows = [lend("a", "write"), lend("b", "write", 2), lend("c", "write", 3), AGAIN, change("c"),
                lend("d", "write", "b"), back("c"), END, back("b"), END] + [END] * 3
        self.tells(rows, 4, "empty")

    def test_only_behind_rounds_that_go_another_way_each(self):
        """Of each of three hands the next is given back only where the last one is gone."""
        rows = [lend("a", "write", 1), lend("b", "write", 2), lend("c", "write", 3), AGAIN, EITHER, back("a"), OR,
                back("b"), OR, back("c"), END, END]
        inner = [lend("d", "write", 1), lend("e", "write", 2), lend("f", "write", 3), END, END, END]
        told = looked(rows + inner + [END] * 3)
        self.assertEqual(told[:2], (13, "beside"))
        self.tells(rows + inner + [END] * 3, 13, "beside")
        self.tells(rows + [look("a"), look("b"), look("c")] + [END] * 3, 12, "empty")

    def test_in_a_later_round_by_a_long_way_round(self):
        """Four hands, each lent from the last one; the fault shows once the innermost three are given back."""
        rows = [lend("a", "write"), lend("b", "write", "a"), lend("c", "write", "b"), lend("d", "write", "c"), AGAIN,
                EITHER, back("d"), OR, back("c"), OR, back("b"), END, END, lend("e", "read"), END] + [END] * 4
        self.tells(rows, 14, "beside")

    def test_within_agains_within_an_again(self):
        rows = [AGAIN, lend("a", "write"), AGAIN, AGAIN, EITHER, OR, back(), END, END, EITHER, OR, change(), END, END,
                END, END]
        self.tells(rows, 11, "empty")

    def test_no_round_at_all(self):
        rows = [lend("a", "write"), AGAIN, back(), END, lend("b", "write"), END, END]
        self.tells(rows, 5, "beside")

    def test_only_in_one_branch(self):
        for branch in range(4):
            rows = [lend("a", "write"), EITHER]
            for number in range(4):
                rows = rows + ([OR] if number else []) + ([back()] if number == branch else [change()])
            self.tells(rows + [END, look(), END], 10, "empty")

    def test_only_with_one_thing_of_a_pick(self):
        for thing in range(5):
            rows = [pick("p", (0, 1, 2, 3, 4)), lend("a", "read", "p"), lend("b", "write", thing), END, END, END]
            self.tells(rows, 3, "beside")
        self.lets_by([pick("p", (0, 1, 2, 3, 4)), lend("a", "read", "p"), lend("b", "write", 5), END, END, END])

    def test_only_where_three_picks_and_an_either_agree(self):
        rows = [pick("p", (1, 2)), pick("q", (3, 2, 4)), pick("r", (9, 8)), lend("a", "write", "p"),
                lend("b", "read", "q"), lend("c", "write", "r"), EITHER, look("c"), OR, back("b"), OR, back("a"), END,
                lend("d", "read", 8), change("c"), END] + [END] * 6
        self.tells(rows, 5, "beside")
        rows[1] = pick("q", (3, 4))
        self.tells(rows, 14, "beside")
        rows[2] = pick("r", (9, 9))
        self.lets_by(rows)

    def test_only_with_the_choices_behind_a_pick_and_an_either_of_one_way(self):
        rows = [pick("p", (1,)), EITHER, END, lend("a", "write", "p"), EITHER, OR, back("a"), END, look("a"), END, END]
        self.tells(rows, 8, "empty")


class Refusals(Case):
    def test_what_checked_refuses_by_the_same_class_and_number(self):
        refused = (
            ([lend("a"), END, None], NoRow, 2),
            ([pick("p", ())], NoRow, 0),
            ([lend("a"), END, END], NoBlock, 2),
            ([AGAIN, OR], NoBlock, 1),
            ([look("a")], NoWord, 0),
            ([EITHER, lend("a", "read", "b")], NoWord, 1),
            ([pick("a"), lend("a")], Taken, 1),
            ([lend("a"), change("a"), END], Narrow, 1),
            ([lend("a"), lend("b", "write", "a"), END, END], Narrow, 1),
            ([EITHER, lend("a"), AGAIN], NoEnd, 2),
        )
        for rows, kind, at in refused:
            kept = copy.deepcopy(rows)
            with self.assertRaises(DeskError) as caught:
                looked(rows)
            self.assertEqual((type(caught.exception), caught.exception.at), (kind, at))
            self.assertEqual(rows, kept)

    def test_a_fault_ahead_of_what_is_refused(self):
        with self.assertRaises(NoEnd) as caught:
            looked([lend("a", "write"), back(), look(), END, AGAIN])
        self.assertEqual(caught.exception.at, 4)

    def test_also_beyond_the_limits(self):
        rows = [lend("a"), END] * 300
        for wrong, kind in (([END], NoBlock), ([look("a")], NoWord), ([AGAIN], NoEnd), ([0], NoRow)):
            with self.assertRaises(kind) as caught:
                looked(rows + wrong)
            self.assertEqual(caught.exception.at, 600)
        rows = [lend(word, "write", 1) for word in "abcdefghijklmnop"] + [pick(word) for word in "qrstuvw"]
        with self.assertRaises(NoEnd) as caught:
            looked(rows)
        self.assertEqual(caught.exception.at, 22)
        with self.assertRaises(Taken) as caught:
            looked(rows + [pick("a")])
        self.assertEqual(caught.exception.at, 23)


class AgainstAllStandings(Case):
    def holds(self, rows):
        wanted = first_fault(rows)
        if wanted is None:
            self.lets_by(rows)
            return ""
        self.tells(rows, wanted[0], wanted[1])
        return wanted[1]

    def test_every_small_sheet(self):
        some = (lend("a", "write"), lend("b", "read", "a"), lend("b", "write"), EITHER, OR, AGAIN, END, back("a"),
                look("a"))
        told = {self.holds(rows) for rows in small_sheets(some, 6)}
        self.assertEqual(told, {"", "beside", "empty", "asleep"})

    def test_every_small_sheet_within_two_hands(self):
        some = (EITHER, OR, AGAIN, END, back("a"), back("b"), look("a"), change("b"))
        round_them = [[lend("a", "write"), lend("b", "write", "a")], [lend("a", "write"), back("a"), lend("b", "write")]]
        for start in round_them:
            for inner in small_sheets(some[:4], 4):
                for row in some[4:]:
                    for at in range(len(inner) + 1):
                        self.holds(start + inner[:at] + [row] + inner[at:] + [look("a"), END, END])

    def test_sheets_by_chance(self):
        told = [self.holds(rows) for rows in sheets_by_chance(4, 1500, 14)]
        for word in ("", "beside", "empty", "asleep"):
            self.assertGreater(told.count(word), 30, word)

    def test_longer_sheets_by_chance(self):
        for rows in sheets_by_chance(5, 60, 50):
            self.holds(rows)

    def test_no_short_list_of_choices_finds_what_is_not_told(self):
        for rows in sheets_by_chance(6, 150, 10):
            told = looked(rows)
            for number in range(3 ** 5):
                choices = [number // 3 ** place % 3 for place in range(5)]
                for at, held in account(rows, choices):
                    word = fault(rows, (at, held))
                    if word:
                        self.assertLessEqual(told[:2], (at, told[1] if at == told[0] else word))
                        if at == told[0]:
                            self.assertLessEqual(FAULTS.index(told[1]), FAULTS.index(word))


def large(last):
    """Five hands, given back in any order, with two things picked: several thousand standings."""
    rows = [pick("p", (1, 2, 3, 4, 5)), pick("q", (1, 2))]
    rows.extend(lend(word, "write", thing) for word, thing in zip("abcd", range(11, 15)))
    rows.extend([lend("e", "write", "p"), AGAIN, EITHER, back("a")])
    for word in "bcde":
        rows.extend([OR, back(word)])
    return rows + [END, END] + [EITHER, END] * 7 + last + [END] * 7


class Large(Case):
    def in_time(self, rows, wanted):
        before = time.process_time()
        told = looked(rows)
        self.assertLess(time.process_time() - before, LOOKS_IN_GOOD_TIME)
        if wanted is None:
            self.assertIsNone(told)
        else:
            self.tells(rows, wanted[0], wanted[1])

    def test_200_rows(self):
        rows = [lend("a", "write"), change("a"), look("a"), back("a"), END] * 40
        self.assertEqual(len(rows), 200)
        self.in_time(rows, None)
        rows[197], rows[198] = rows[198], rows[197]
        self.in_time(rows, (198, "empty"))

    def test_200_rows_of_eithers_in_a_row(self):
        """Far more runs than can be followed one by one, with very few standings."""
        rows = [lend("a", "write"), back("a")] + [EITHER, OR, END] * 65 + [look("a"), END]
        self.assertLessEqual(len(rows), 200)
        self.in_time(rows, (197, "empty"))
        self.in_time(rows[:197] + [back("a"), END], None)

    def test_200_rows_of_agains_in_a_row_and_within_one_another(self):
        self.in_time([lend("a"), back("a")] + [AGAIN, END] * 98 + [END], None)
        self.in_time([lend("a")] + [AGAIN] * 98 + [END] * 98 + [look("a"), back("a"), END], None)
        self.in_time([lend("a")] + [AGAIN] * 98 + [back("a")] + [END] * 98 + [look("a"), END], (198, "empty"))

    def test_an_either_of_190_branches(self):
        rows = [lend("a", "write"), AGAIN, EITHER] + [OR] * 189 + [back("a"), END, END, look("a"), END]
        self.in_time(rows, (195, "empty"))

    def test_several_thousand_standings(self):
        rows = large([])
        many = len(all_standings(rows))
        self.assertGreater(many, 8500)
        self.assertLessEqual(many, 10000)
        self.in_time(rows, None)

    def test_several_thousand_standings_with_one_fault(self):
        rows = large([lend("g", "read", 13), END])
        at = len(rows) - 8
        self.assertLessEqual(len(all_standings(rows)), 10000)
        self.in_time(rows, (at, "beside"))
        rows = large([look("c")])
        self.in_time(rows, (len(rows) - 8, "empty"))

    def test_six_lends_and_three_picks(self):
        rows = [pick("p", (1, 2, 3)), pick("q", (1, 2, 2)), pick("r", (1, 2, 3))]
        rows.extend(lend(word, "read", source) for word, source in zip("abcdef", "pqrabc"))
        rows = rows + [AGAIN, EITHER, back("a"), OR, back("b"), OR, back("c"), OR, back("f"), END, END]
        many = len(all_standings(rows + [END] * 9))
        self.assertGreater(many, 2000)
        self.assertLessEqual(many, 10000)
        self.in_time(rows + [END] * 9, None)
        self.in_time(rows + [look("d")] + [END] * 9, (20, "empty"))


class NothingHandedInIsChanged(Case):
    rows = [lend("a", "write"), AGAIN, EITHER, OR, back("a"), END, END, look("a"), END]

    def test_the_rows_stay_as_they_were(self):
        rows = list(self.rows)
        self.tells(rows, 7, "empty")
        self.assertEqual(rows, self.rows)

    def test_a_changed_answer_changes_no_later_one(self):
        first = looked(self.rows)
        kept = list(first[2])
        self.assertGreater(len(kept), 1)
        first[2].append(9)
        first[2][0] = 8
        self.assertEqual(looked(self.rows), (7, "empty", kept))

    def test_a_sheet_that_is_looked_through_changes_no_other_answer(self):
        looked(self.rows)
        self.lets_by([lend("a"), END])
        self.tells(self.rows, 7, "empty")


if __name__ == "__main__":
    unittest.main()
