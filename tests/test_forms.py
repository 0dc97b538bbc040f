"""Points 2, 4, 5 and 13: what checked lets by and what it refuses."""

import copy
import itertools
import unittest

from borrowdesk.errors import DeskError, Narrow, NoBlock, NoEnd, NoRow, NoWord, Taken
from borrowdesk.forms import checked

END = ("end",)
OR = ("or",)
EITHER = ("either",)
AGAIN = ("again",)
TWELVE = "abcdefghijkl"
THIRTEEN = "abcdefghijklm"


def lend(hand="a", kind="read", source=0):
    return ("lend", hand, kind, source)


def pick(word="p", things=(0,)):
    return ("pick", word, things)


class Case(unittest.TestCase):
    def lets_by(self, rows):
        self.assertIsNone(checked(rows), rows)

    def refuses(self, rows, kind, at):
        with self.assertRaises(DeskError) as caught:
            checked(rows)
        told = caught.exception
        self.assertEqual((type(told), told.at), (kind, at), rows)

    def refuses_row(self, row):
        """The row alone is none, first, behind a good row and within blocks."""
        self.refuses([row], NoRow, 0)
        self.refuses([lend("x"), END, EITHER, OR, row, END], NoRow, 4)


class GoodSheets(Case):
    def test_the_empty_sheet(self):
        self.lets_by([])

    def test_every_row_there_is(self):
        self.lets_by([
            pick("p", (1, 2)),
            lend("a", "write", "p"),
            ("change", "a"),
            lend("b", "read", "a"),
            EITHER, ("look", "b"), OR, AGAIN, ("back", "a"), END, OR, END,
            END, END, END,
        ])

    def test_a_word_stands_up_to_the_end_of_its_block_through_blocks_within(self):
        self.lets_by([lend("a"), EITHER, AGAIN, ("look", "a"), END, OR, ("back", "a"), END, END])
        self.lets_by([lend("a"), lend("b"), END, ("look", "a"), END])

    def test_each_use_of_a_hand_to_write(self):
        for name in ("back", "look", "change"):
            self.lets_by([lend("a", "write"), (name, "a"), END])

    def test_a_hand_to_read_may_be_looked_by_and_given_back(self):
        self.lets_by([lend("a"), ("look", "a"), ("back", "a"), END])

    def test_a_lend_from_each_source(self):
        for kind in ("read", "write"):
            self.lets_by([lend("a", kind, 7), END])
            self.lets_by([pick("p"), lend("a", kind, "p"), END, END])
            self.lets_by([lend("a", "write"), lend("b", kind, "a"), END, END])
        self.lets_by([lend("a", "read"), lend("b", "read", "a"), END, END])

    def test_a_word_is_free_again_behind_its_end(self):
        self.lets_by([lend("a"), END, lend("a"), END, pick("a"), END, pick("a"), END])
        self.lets_by([pick("a"), END, lend("a", "write"), ("change", "a"), END])
        self.lets_by([EITHER, lend("a"), END, OR, lend("a", "write"), ("change", "a"), END, END])

    def test_what_is_handed_in_stays_as_it_was(self):
        good = [pick("p", (1, 1)), lend("a", "write", "p"), ("change", "a"), END, END]
        kept = copy.deepcopy(good)
        checked(good)
        checked(good)
        self.assertEqual(good, kept)
        bad = [lend("a"), ["end"], {}, pick("p", [1])]
        kept = copy.deepcopy(bad)
        self.refuses(bad, NoRow, 1)
        self.assertEqual(bad, kept)

    def test_a_refusal_changes_no_later_answer(self):
        self.refuses([lend("a")], NoEnd, 0)
        self.lets_by([lend("a"), END])
        self.refuses([("look", "a")], NoWord, 0)


class Words(Case):
    def test_the_edges_of_a_word(self):
        for word in ("a", "z", TWELVE, "z" * 12, "read", "write", "pick", "lend", "end"):
            self.lets_by([lend(word), ("look", word), ("back", word), END])
            self.lets_by([lend(word, "write"), ("change", word), END])
            self.lets_by([pick(word), lend("q", "read", word), END, END])

    def test_words_that_are_names_of_rows(self):
        self.refuses([("look", "end")], NoWord, 0)
        self.refuses([("back", "or")], NoWord, 0)
        self.refuses([lend("a", "read", "end")], NoWord, 0)
        self.refuses([lend("either"), ("look", "either"), OR], NoBlock, 2)
        self.refuses([pick("p"), lend("a", "read", "p"), OR], NoBlock, 2)
        self.refuses([lend("either"), lend("a", "read", "either"), OR], NoBlock, 2)
        self.lets_by([lend("or", "write"), lend("end", "read", "or"), ("look", "end"), ("change", "or"), END, END])
        self.refuses([("x", "end")], NoRow, 0)
        self.refuses([("x", "lend")], NoRow, 0)

    def test_what_is_no_word(self):
        wrong = (
            "", THIRTEEN, "a" * 13, "a" * 500, "A", "aB", "a1", "1", "a b", " a", "a ", "a\n", "a_",
            "`", "{", "\u00e9", "a\u00df", "\u0430", "-", b"a", None, True, 1.5, ("a",), ["a"], {},
        )
        for word in wrong:
            with self.subTest(word=word):
                self.refuses_row(lend(word))
                self.refuses_row(pick(word))
                for name in ("back", "look", "change"):
                    self.refuses_row((name, word))
                self.refuses_row(lend("a", "read", word))

    def test_a_thing_is_no_word(self):
        self.refuses_row(lend(5))
        self.refuses_row(pick(5))
        for name in ("back", "look", "change"):
            self.refuses_row((name, 5))


class Things(Case):
    def test_the_edges_of_a_thing(self):
        for thing in (0, 1, 999999998, 999999999):
            self.lets_by([lend("a", "write", thing), END])
            self.lets_by([pick("p", (thing,)), END])

    def test_what_is_no_thing(self):
        for thing in (-1, -999999999, 1000000000, 10 ** 40, True, False, 0.0, 1.0, None, b"a", (1,), [1]):
            with self.subTest(thing=thing):
                self.refuses_row(lend("a", "read", thing))
                self.refuses_row(pick("p", (thing,)))
                self.refuses_row(pick("p", (1, 2, 3, 4, thing)))

    def test_a_pick_has_no_words(self):
        self.refuses_row(pick("p", ("a",)))
        self.refuses_row(pick("p", (1, "a")))

    def test_a_pick_of_one_to_five_things(self):
        for many in range(1, 6):
            self.lets_by([pick("p", tuple(range(many))), END])

    def test_a_pick_of_things_that_are_alike(self):
        self.lets_by([pick("p", (4, 4)), END])
        self.lets_by([pick("p", (4, 4, 4, 4, 4)), END])

    def test_what_is_no_pick(self):
        for things in ((), (1, 2, 3, 4, 5, 6), (1,) * 7, [1], [], 1, "1", "a", None, {1: 2}, range(3), b"a"):
            with self.subTest(things=things):
                self.refuses_row(pick("p", things))


class Rows(Case):
    def test_what_is_no_tuple(self):
        wrong = (
            None, 0, 1, True, False, 1.5, "", "end", "either", b"end", [], ["end"], ["or"], ["either"], {},
            {"end": 1}, ["lend", "a", "read", 0], ["pick", "p", (0,)], ["look", "x"], tuple, {1},
        )
        for row in wrong:
            with self.subTest(row=row):
                self.refuses_row(row)

    def test_a_tuple_of_the_wrong_length(self):
        right = (lend(), pick(), ("back", "x"), ("look", "x"), ("change", "x"), EITHER, OR, AGAIN, END)
        for row in right:
            for many in range(6):
                wrong = (row + ("a", 0, None, "b", "c", "d"))[:many]
                if len(wrong) != len(row):
                    with self.subTest(wrong=wrong):
                        self.refuses_row(wrong)

    def test_the_empty_tuple(self):
        self.refuses_row(())

    def test_what_names_no_row(self):
        for name in ("", "ends", "En", "END", "Lend", "borrow", "read", None, 0, True, b"end", ("end",), ["end"], {}):
            for rest in ((), ("x",), ("p", (0,)), ("a", "read", 0)):
                with self.subTest(name=name, rest=rest):
                    self.refuses_row((name,) + rest)

    def test_the_rest_of_another_row(self):
        self.refuses_row(("pick", "a", "read", 0))
        self.refuses_row(("lend", "p", (0,)))
        self.refuses_row(("end", "a"))
        self.refuses_row(("again", 2))
        self.refuses_row(("look",))

    def test_what_is_no_kind(self):
        for kind in ("", "Read", "reads", "pick", "both", "a", None, True, 0, b"read", ("read",), ["write"]):
            with self.subTest(kind=kind):
                self.refuses_row(lend("a", kind))

    def test_a_source_that_is_neither_a_thing_nor_a_word(self):
        for source in ((0,), ("a",), [0], {}, None, "", THIRTEEN, "A", True, False, -1, 1000000000):
            with self.subTest(source=source):
                self.refuses_row(lend("a", "write", source))


class Blocks(Case):
    def test_an_end_where_no_block_is_open(self):
        self.refuses([END], NoBlock, 0)
        self.refuses([lend(), END, END], NoBlock, 2)
        self.refuses([EITHER, OR, END, AGAIN, END, END], NoBlock, 5)

    def test_an_or_where_none_is_open(self):
        self.refuses([OR], NoBlock, 0)
        self.refuses([EITHER, END, OR], NoBlock, 2)

    def test_an_or_where_the_innermost_is_no_either(self):
        for opener in (lend(), pick(), AGAIN):
            self.refuses([opener, OR], NoBlock, 1)
            self.refuses([EITHER, opener, OR, END, END], NoBlock, 2)
            self.refuses([EITHER, OR, opener, END, OR, opener, OR], NoBlock, 6)
            self.lets_by([EITHER, opener, END, OR, END])
            self.lets_by([opener, EITHER, OR, END, END])


class Uses(Case):
    def test_a_word_that_stands_for_nothing(self):
        for name in ("back", "look", "change"):
            self.refuses([(name, "a")], NoWord, 0)
            self.refuses([lend("b"), (name, "a"), END], NoWord, 1)

    def test_a_word_that_stands_for_no_hand(self):
        for name in ("back", "look", "change"):
            self.refuses([pick("p"), (name, "p"), END], NoWord, 1)
            self.refuses([pick("p"), lend("a", "write", "p"), (name, "p"), END, END], NoWord, 2)

    def test_a_word_behind_the_end_of_its_block(self):
        for name in ("back", "look", "change"):
            self.refuses([lend("a", "write"), END, (name, "a")], NoWord, 2)
            self.refuses([AGAIN, lend("a", "write"), END, (name, "a"), END], NoWord, 3)
            self.refuses([EITHER, lend("a", "write"), END, OR, (name, "a"), END], NoWord, 4)

    def test_a_word_ahead_of_its_block(self):
        self.refuses([AGAIN, ("look", "a"), lend("a"), END, END], NoWord, 1)

    def test_a_change_by_a_hand_to_read(self):
        self.refuses([lend("a"), ("change", "a"), END], Narrow, 1)
        self.refuses([lend("b", "write"), lend("a", "read", "b"), ("change", "a")], Narrow, 2)
        self.refuses([lend("a", "write"), END, lend("a"), AGAIN, ("change", "a")], Narrow, 4)


class Namings(Case):
    def test_a_source_that_stands_for_nothing(self):
        for kind in ("read", "write"):
            self.refuses([lend("a", kind, "b")], NoWord, 0)
            self.refuses([lend("b", "write"), END, lend("a", kind, "b")], NoWord, 2)
            self.refuses([pick("b"), END, lend("a", kind, "b")], NoWord, 2)

    def test_a_lend_from_its_own_word(self):
        self.refuses([lend("a", "read", "a"), END], NoWord, 0)
        self.refuses([lend("a", "write", "a"), END], NoWord, 0)

    def test_a_word_that_stands_for_something_already(self):
        for first in (lend("a"), lend("a", "write"), pick("a")):
            for second in (lend("a"), lend("a", "write"), pick("a")):
                self.refuses([first, second, END, END], Taken, 1)
                self.refuses([first, EITHER, OR, AGAIN, second], Taken, 4)
                self.lets_by([first, END, second, END])

    def test_a_lend_to_write_from_a_hand_to_read(self):
        self.refuses([lend("a"), lend("b", "write", "a"), END, END], Narrow, 1)
        self.refuses([lend("c", "write"), lend("a", "read", "c"), lend("b", "write", "a")], Narrow, 2)
        self.refuses([lend("a", "write"), END, lend("a"), lend("b", "write", "a")], Narrow, 3)


class NoEnds(Case):
    def test_a_block_of_each_kind_that_stays_open(self):
        for opener in (lend(), pick(), EITHER, AGAIN):
            self.refuses([opener], NoEnd, 0)
            self.refuses([AGAIN, END, opener], NoEnd, 2)

    def test_the_innermost_of_several_is_told(self):
        self.refuses([EITHER, lend(), pick(), AGAIN], NoEnd, 3)
        self.refuses([EITHER, lend(), pick(), END, AGAIN, END], NoEnd, 1)
        self.refuses([EITHER, OR, lend(), END, OR], NoEnd, 0)
        self.refuses([lend(), lend("b", "read", "a"), END, ("look", "a")], NoEnd, 0)


class Order(Case):
    def test_of_two_rows_the_first_is_told(self):
        faults = (
            ([None], NoRow, 0),
            ([OR], NoBlock, 0),
            ([("look", "n")], NoWord, 0),
            ([lend("n", "read", "m")], NoWord, 0),
            ([lend("n"), ("change", "n")], Narrow, 1),
            ([lend("n"), pick("n")], Taken, 1),
            ([lend("n"), lend("m", "write", "n")], Narrow, 1),
        )
        for first, kind, at in faults:
            for second, _, _ in faults:
                self.refuses(first + second, kind, at)
                self.refuses(first + [AGAIN, END] + second, kind, at)

    def test_no_end_comes_behind_every_other(self):
        for row, kind in ((0, NoRow), (OR, NoBlock), (("back", "n"), NoWord), (lend("a"), Taken),
                          (("change", "a"), Narrow), (lend("b", "write", "a"), Narrow)):
            self.refuses([lend("a"), row], kind, 1)

    def test_no_row_before_all_others(self):
        self.refuses([("end", 1)], NoRow, 0)
        self.refuses([("or", 1)], NoRow, 0)
        self.refuses([("look", "a", 1)], NoRow, 0)
        self.refuses([("lend", "a", "read", "b", 1)], NoRow, 0)
        self.refuses([lend("a"), lend("a", "writes", "a")], NoRow, 1)
        self.refuses([lend("a"), pick("a", ())], NoRow, 1)

    def test_no_word_before_taken(self):
        self.refuses([lend("a"), lend("a", "read", "b"), END, END], NoWord, 1)
        self.refuses([pick("a"), lend("a", "write", "b"), END, END], NoWord, 1)

    def test_taken_before_narrow(self):
        self.refuses([lend("a"), lend("a", "write", "a"), END, END], Taken, 1)
        self.refuses([pick("p"), lend("a"), lend("p", "write", "a"), END, END, END], Taken, 2)

    def test_no_word_before_narrow_of_a_change(self):
        self.refuses([pick("p"), ("change", "p"), END], NoWord, 1)


class Large(Case):
    def deep(self, many):
        """So many lends, each from the last one, all open at once."""
        words = ["".join(letters) for letters in itertools.islice(itertools.product("abc", repeat=9), many)]
        sources = [0] + words[:-1]
        return [lend(word, "write", source) for word, source in zip(words, sources)]

    def test_many_rows(self):
        many = [lend("a", "write"), ("change", "a"), END] * 2000
        self.lets_by(many)
        self.refuses(many + [END], NoBlock, 6000)
        self.refuses(many + [None], NoRow, 6000)
        self.refuses(many + [("look", "a")], NoWord, 6000)
        self.refuses(many + [AGAIN], NoEnd, 6000)

    def test_201_rows(self):
        self.lets_by([lend("a"), END] * 100 + [EITHER, END])
        self.refuses([lend("a"), END] * 100 + [lend("a"), lend("b", "write", "a")], Narrow, 201)

    def test_many_lends_round_one_row(self):
        for many in (6, 7, 5000):
            rows = self.deep(many)
            self.lets_by(rows + [("change", rows[-1][1])] + [END] * many)
            self.refuses(rows + [END] * (many - 1), NoEnd, 0)
            self.refuses(rows + [END] * (many + 1), NoBlock, 2 * many)
            self.refuses(rows + [rows[0]], Taken, many)
            self.refuses(rows + [lend("z", "read", "zz")], NoWord, many)
            self.refuses(rows + [OR], NoBlock, many)

    def test_many_picks_round_one_row(self):
        for many in (3, 4, 26):
            rows = [pick(word) for word in "abcdefghijklmnopqrstuvwxyz"[:many]]
            self.lets_by(rows + [END] * many)
            self.refuses(rows + [pick("a")], Taken, many)
            self.refuses(rows + [("look", "a")], NoWord, many)


def plainly(rows):
    """Points 3, 4 and 5 read off again for each row, without a table kept beside."""
    for at, row in enumerate(rows):
        around = []
        for number in range(at):
            if rows[number][0] in ("lend", "pick", "either", "again"):
                around.append(number)
            elif rows[number] == END:
                around.pop()
        named = [rows[number] for number in around if rows[number][0] in ("lend", "pick")]
        hands = {told[1]: told[2] for told in named if told[0] == "lend"}
        words = [told[1] for told in named]
        within = rows[around[-1]] if around else None
        if (row == END and not around) or (row == OR and within != EITHER):
            return ("NoBlock", at)
        if row[0] in ("back", "look", "change") and row[1] not in hands:
            return ("NoWord", at)
        if row[0] == "lend" and isinstance(row[3], str) and row[3] not in words:
            return ("NoWord", at)
        if row[0] == "change" and hands[row[1]] == "read":
            return ("Narrow", at)
        if row[0] in ("lend", "pick") and row[1] in words:
            return ("Taken", at)
        if row[0] == "lend" and row[2] == "write" and hands.get(row[3]) == "read":
            return ("Narrow", at)
    still = []
    for number, row in enumerate(rows):
        if row[0] in ("lend", "pick", "either", "again"):
            still.append(number)
        elif row == END:
            still.pop()
    return ("NoEnd", still[-1]) if still else None


def answered(rows):
    try:
        return checked(rows)
    except DeskError as told:
        return (type(told).__name__, told.at)


class EverySmallSheet(unittest.TestCase):
    def test_all_sheets_of_up_to_four_rows(self):
        some = (
            lend("a", "read", 1), lend("a", "write", 1), lend("a", "write", "b"), lend("b", "read", "a"),
            lend("b", "write", "a"), pick("b"), pick("a"), EITHER, OR, AGAIN, END, ("look", "a"), ("change", "a"),
        )
        for many in range(5):
            for rows in itertools.product(some, repeat=many):
                self.assertEqual(answered(list(rows)), plainly(rows), rows)


if __name__ == "__main__":
    unittest.main()
