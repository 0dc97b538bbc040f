"""Point 3: homes, ends and branches; and point 1, that each answer is new."""

import unittest

from borrowdesk.blocks import branches, ends, homes
from borrowdesk.forms import checked

END = ("end",)
OR = ("or",)
EITHER = ("either",)
AGAIN = ("again",)

NESTED = [
    ("pick", "p", (1, 2)),           # 0
    ("lend", "a", "write", "p"),     # 1
    ("look", "a"),                   # 2
    ("lend", "b", "read", "a"),      # 3
    ("back", "b"),                   # 4
    END,                             # 5, of 3
    ("change", "a"),                 # 6
    END,                             # 7, of 1
    END,                             # 8, of 0
    ("lend", "c", "read", 9),        # 9
    END,                             # 10, of 9
]

FORKED = [
    EITHER,                          # 0
    AGAIN,                           # 1
    EITHER,                          # 2
    ("lend", "a", "read", 1),        # 3
    END,                             # 4, of 3
    OR,                              # 5, of 2
    END,                             # 6, of 2
    END,                             # 7, of 1
    OR,                              # 8, of 0
    EITHER,                          # 9
    OR,                              # 10, of 9
    OR,                              # 11, of 9
    END,                             # 12, of 9
    OR,                              # 13, of 0
    OR,                              # 14, of 0
    END,                             # 15, of 0
]


class Homes(unittest.TestCase):
    def test_the_empty_sheet(self):
        self.assertEqual(homes([]), [])

    def test_nested_lends_and_picks(self):
        self.assertEqual(homes(NESTED), [-1, 0, 1, 1, 3, 3, 1, 1, 0, -1, 9])

    def test_eithers_and_agains_within_one_another(self):
        self.assertEqual(homes(FORKED), [-1, 0, 1, 2, 3, 2, 2, 1, 0, 0, 9, 9, 9, 0, 0, 0])

    def test_empty_blocks_of_each_kind(self):
        rows = [
            ("lend", "a", "read", 0), END, ("pick", "a", (0,)), END, EITHER, END, AGAIN, END,
        ]
        self.assertEqual(homes(rows), [-1, 0, -1, 2, -1, 4, -1, 6])

    def test_an_or_lies_within_its_either(self):
        self.assertEqual(homes([EITHER, OR, OR, END]), [-1, 0, 0, 0])

    def test_a_deep_sheet(self):
        rows = [AGAIN] * 3000 + [END] * 3000
        self.assertTrue(homes(rows) == list(range(-1, 2999)) + list(range(2999, -1, -1)))


class Ends(unittest.TestCase):
    def test_the_empty_sheet(self):
        self.assertEqual(ends([]), [])

    def test_nested_lends_and_picks(self):
        self.assertEqual(ends(NESTED), [8, 7, -1, 5, -1, -1, -1, -1, -1, 10, -1])

    def test_eithers_and_agains_within_one_another(self):
        told = {0: 15, 1: 7, 2: 6, 3: 4, 9: 12}
        self.assertEqual(ends(FORKED), [told.get(at, -1) for at in range(len(FORKED))])

    def test_empty_blocks_of_each_kind(self):
        rows = [
            ("lend", "a", "read", 0), END, ("pick", "a", (0,)), END, EITHER, END, AGAIN, END,
        ]
        self.assertEqual(ends(rows), [1, -1, 3, -1, 5, -1, 7, -1])

    def test_an_or_opens_and_ends_nothing(self):
        self.assertEqual(ends([EITHER, OR, OR, END]), [3, -1, -1, -1])

    def test_a_deep_sheet(self):
        rows = [AGAIN] * 3000 + [END] * 3000
        self.assertTrue(ends(rows) == list(range(5999, 2999, -1)) + [-1] * 3000)


class Branches(unittest.TestCase):
    def test_an_either_without_an_or_has_one_branch(self):
        self.assertEqual(branches([EITHER, END], 0), [1])
        self.assertEqual(branches([AGAIN, EITHER, AGAIN, END, END, END], 1), [2])

    def test_an_either_with_one_or(self):
        rows = [EITHER, ("lend", "a", "read", 1), END, OR, AGAIN, END, END]
        self.assertEqual(branches(rows, 0), [1, 4])

    def test_an_either_with_several_ors(self):
        self.assertEqual(branches([EITHER, OR, OR, OR, END], 0), [1, 2, 3, 4])

    def test_an_or_belongs_to_the_innermost_either_alone(self):
        self.assertEqual(branches(FORKED, 0), [1, 9, 14, 15])
        self.assertEqual(branches(FORKED, 2), [3, 6])
        self.assertEqual(branches(FORKED, 9), [10, 11, 12])

    def test_the_ors_of_an_either_beside_it_are_none_of_its_own(self):
        rows = [EITHER, OR, END, EITHER, END, EITHER, OR, OR, END]
        self.assertEqual(branches(rows, 0), [1, 2])
        self.assertEqual(branches(rows, 3), [4])
        self.assertEqual(branches(rows, 5), [6, 7, 8])


class WordsThatAreNamesOfRows(unittest.TestCase):
    """A word may be called end, or, either: it is the row's name that opens, parts and ends."""

    ROWS = [
        ("lend", "end", "write", 1),     # 0
        ("lend", "or", "read", "end"),   # 1
        EITHER,                          # 2
        ("look", "end"),                 # 3
        ("look", "or"),                  # 4
        ("pick", "again", (1,)),         # 5
        ("lend", "a", "read", "again"),  # 6
        ("back", "or"),                  # 7
        END,                             # 8, of 6
        END,                             # 9, of 5
        OR,                              # 10, of 2
        ("look", "or"),                  # 11
        END,                             # 12, of 2
        END,                             # 13, of 1
        END,                             # 14, of 0
    ]

    def test_homes(self):
        self.assertEqual(homes(self.ROWS), [-1, 0, 1, 2, 2, 2, 5, 6, 6, 5, 2, 2, 2, 1, 0])

    def test_ends(self):
        told = {0: 14, 1: 13, 2: 12, 5: 9, 6: 8}
        self.assertEqual(ends(self.ROWS), [told.get(at, -1) for at in range(len(self.ROWS))])

    def test_branches(self):
        self.assertEqual(branches(self.ROWS, 2), [3, 11])


class TheSheetsOfTheseTests(unittest.TestCase):
    def test_each_is_a_sheet(self):
        for rows in (NESTED, FORKED, WordsThatAreNamesOfRows.ROWS):
            self.assertIsNone(checked(rows))


class EachAnswerIsNew(unittest.TestCase):
    def test_what_is_handed_in_stays_as_it_was(self):
        for rows in ([], NESTED, FORKED):
            handed = list(rows)
            homes(handed)
            ends(handed)
            self.assertEqual(handed, rows)
        handed = list(FORKED)
        branches(handed, 0)
        self.assertEqual(handed, FORKED)

    def test_a_changed_answer_changes_no_later_one(self):
        asked = (homes, ends, lambda rows: branches(rows, 0))
        for rows in ([EITHER, END], FORKED):
            for ask in asked:
                first = ask(rows)
                kept = list(first)
                first.append(99)
                first[0] = 98
                self.assertEqual(ask(rows), kept)
                self.assertIsNot(ask(rows), ask(rows))

    def test_the_empty_answers_are_new_too(self):
        homes([]).append(1)
        ends([]).append(1)
        self.assertEqual(homes([]), [])
        self.assertEqual(ends([]), [])

    def test_each_answer_is_a_list_of_whole_numbers(self):
        for answer in (homes(FORKED), ends(FORKED), branches(FORKED, 0)):
            self.assertIs(type(answer), list)
            self.assertEqual({type(number) for number in answer}, {int})


if __name__ == "__main__":
    unittest.main()
