"""runs.ended ([3], [4], [5], [6], [9], [10])."""

import itertools
import unittest

from helping import RefusingCase, nested, odd_values, plain
from passedits.errors import InvalidArrival, InvalidEdits, InvalidText, NotATable
from passedits.runs import ended
from passedits.tables import Table
from playing import Player, arrivals, good, made_at_one_time

LONG = "abcdefghij" * 100
STAY = ("stay",)
STAY_ROWS = {("set", "out", "="): "put", ("out", "set", "="): "stay"}


class Ended(unittest.TestCase):
    def test_one_edit(self):
        table = good(("put", "out", "set"))
        for edit, expected in (
            (("put", 0, "x"), "xabc"), (("put", 3, "x"), "abcx"), (("out", 0), "bc"), (("out", 2), "ab"),
            (("set", 0, "x"), "xbc"), (("set", 2, "x"), "abx"), (STAY, "abc"),
        ):
            self.assertEqual(ended(table, "abc", (edit,), (0,)), expected)

    def test_one_edit_on_the_empty_list(self):
        self.assertEqual(ended(plain(), "", (("put", 0, "x"),), (0,)), "x")
        self.assertEqual(ended(plain(), "", (STAY,), (0,)), "")

    def test_two_edits(self):
        table = good(("put", "out", "set"))
        for edits, expected in (
            ((("put", 1, "x"), ("put", 1, "y")), ("axybc", "axybc")),
            ((("put", 0, "x"), ("out", 2)), ("xab", "xab")),
            ((("out", 0), ("out", 2)), ("b", "b")),
            ((("out", 1), ("out", 1)), ("ac", "ac")),
            ((("set", 1, "x"), ("set", 1, "y")), ("axc", "axc")),
            ((("set", 1, "x"), ("out", 1)), ("ac", "ac")),
            ((("set", 2, "x"), ("put", 0, "y")), ("yabx", "yabx")),
            ((STAY, ("out", 0)), ("bc", "bc")),
            ((("put", 3, "x"), STAY), ("abcx", "abcx")),
            ((STAY, STAY), ("abc", "abc")),
        ):
            self.assertEqual(tuple(ended(table, "abc", edits, arrival) for arrival in ((0, 1), (1, 0))), expected)

    def test_which_site_goes_first(self):
        table = Table(("put",), ("put put = first:up keep",))
        edits = (("put", 0, "x"), ("put", 0, "y"))
        self.assertEqual(ended(table, "a", edits, (0, 1)), "yxa")
        self.assertEqual(ended(table, "a", edits, (1, 0)), "yxa")
        last = Table(("put",), ("put put = first:keep up",))
        self.assertEqual(ended(last, "a", (STAY, *edits), (2, 0, 1)), "xya")
        self.assertEqual(ended(last, "a", (edits[0], STAY, edits[1]), (2, 0, 1)), "xya")

    def test_a_table_of_which_arrivals_do_not_meet(self):
        table = Table(("put",))
        edits = (("put", 0, "x"), ("put", 0, "y"))
        self.assertEqual(ended(table, "a", edits, (0, 1)), "yxa")
        self.assertEqual(ended(table, "a", edits, (1, 0)), "xya")

    def test_the_third_edit_is_turned_past_the_form_of_the_second_one(self):
        # The set moves to the place of the second put, and only a set at this place moves that put.
        table = Table(("put", "set"), ("set put > up", "put set = up"))
        edits = (("put", 0, "x"), ("set", 1, "y"), ("put", 2, "z"))
        self.assertEqual(ended(table, "abc", edits, (0, 1, 2)), "xayzc")
        self.assertEqual(ended(table, "abc", edits, (0, 2, 1)), "xaybc")
        # Both sets have moved when the second one is turned past the first one.
        table = Table(("put", "set"), ("set put > up", "set set = stay"))
        edits = (("put", 0, "x"), ("set", 1, "y"), ("set", 1, "z"))
        self.assertEqual(ended(table, "abc", edits, (0, 1, 2)), "xayc")
        self.assertEqual(ended(table, "abc", edits, (0, 2, 1)), "xazc")

    def test_a_set_that_becomes_a_put_is_a_put_for_the_third_edit(self):
        table = Table(("put", "out", "set"), ("set out = put", "set out > down", "set put = up", "set set = down"))
        edits = (("out", 1), ("set", 1, "x"), ("set", 2, "z"))
        self.assertEqual(ended(table, "abc", edits, (0, 1, 2)), "axz")

    def test_an_edit_that_stays_turns_no_other_one(self):
        table = Table(("out", "set"), ("set out = stay", "set set = stay", "set set > down"))
        edits = (("out", 0), ("set", 0, "x"), ("set", 1, "y"))
        self.assertEqual(ended(table, "abc", edits, (0, 1, 2)), "by")
        self.assertEqual(ended(table, "abc", edits, (1, 2, 0)), "bc")

    def test_all_arrivals_of_all_edits_of_two_sites(self):
        for kinds in (("put", "out", "set"), ("put", "set"), ("out",)):
            for changes in ({}, STAY_ROWS if len(kinds) == 3 else {}):
                table = good(kinds, changes)
                self.plays_right(table, "ab", made_at_one_time(kinds, 2, 2))

    def test_all_arrivals_of_all_edits_of_three_sites(self):
        for table in (
            good(("put", "out"), {("out", "put", "="): "keep", ("put", "put", "<"): "first:up keep"}),
            good(("out", "set"), {("set", "set", "="): "less:keep same:stay down"}),
            good(("put", "set"), {("set", "put", "="): "first:put up", ("put", "put", "="): "more:up less:down stay"}),
        ):
            self.plays_right(table, "a", made_at_one_time(table.kinds, 1, 3))

    def plays_right(self, table, text, rows):
        player = Player(table)
        for edits in rows:
            for arrival in arrivals(len(edits)):
                found = ended(table, text, edits, arrival)
                if found != player.end(text, edits, arrival):
                    self.fail(f"{edits} {arrival}: {found!r} with\n{table}")

    def test_four_and_more_edits(self):
        table = good(("put", "out", "set"))
        rows = (
            (("put", 0, "x"), ("out", 3), ("put", 2, "y"), ("set", 1, "z")),
            (("put", 1, "x"), ("put", 1, "y"), STAY, ("out", 1), ("out", 1)),
            (("put", 4, "x"), ("set", 2, "y"), STAY, ("out", 0), ("set", 2, "z"), ("put", 0, "w")),
        )
        for edits in rows:
            self.plays_right(table, "abcd", [edits])

    def test_six_edits_at_one_place(self):
        edits = tuple(("put", 1, sign) for sign in "uvwxyz")
        for arrival in ((0, 1, 2, 3, 4, 5), (5, 4, 3, 2, 1, 0), (3, 0, 5, 1, 4, 2)):
            self.assertEqual(ended(plain(), "ab", edits, arrival), "auvwxyzb")
        self.assertEqual(ended(plain(), "abc", (("out", 1),) * 6, (2, 0, 5, 1, 4, 3)), "ac")
        down = Table(("set",), ("set set < stay", "set set = down"))
        self.assertIs(ended(down, "a", (("set", 0, "x"), ("set", 0, "y")), (0, 1)), None)

    def test_many_moves_of_one_edit(self):
        up = Table(("put",), ("put put = up", "put put < up", "put put > up"))
        edits = tuple(("put", 0, sign) for sign in "uvwxyz")
        self.assertEqual(ended(up, "", edits, (0, 1, 2, 3, 4, 5)), "uvwxyz")
        self.assertEqual(ended(up, "", edits, (5, 3, 1, 0, 2, 4)), "zxvuwy")

    def test_an_edit_that_can_be_done_no_more(self):
        bare = Table(("put", "out", "set"))
        for text, edits in (
            ("a", (("out", 0), ("out", 0))),
            ("a", (("out", 0), ("set", 0, "x"))),
            ("abc", (("out", 1), ("out", 2))),
            ("abc", (("out", 1), ("put", 3, "x"))),
            ("abc", (("out", 1), ("set", 2, "x"))),
        ):
            self.assertIs(ended(bare, text, edits, (0, 1)), None)
        self.assertEqual(ended(bare, "a", (("out", 0), ("set", 0, "x")), (1, 0)), "")
        down = Table(("put", "out", "set"), ("put set = down", "out set = down", "set set = down"))
        for edit in (("put", 0, "x"), ("out", 0), ("set", 0, "x")):
            self.assertIs(ended(down, "a", (("set", 0, "y"), edit), (0, 1)), None)
        self.assertEqual(ended(down, "ab", (("set", 1, "y"), ("out", 1)), (0, 1)), "y")

    def test_an_edit_between_that_can_be_done_no_more(self):
        bare = Table(("put", "out"))
        # Behind the put there is a sign again, but the second edit could not be done.
        edits = (("out", 0), ("out", 0), ("put", 0, "x"))
        self.assertIs(ended(bare, "a", edits, (0, 1, 2)), None)
        self.assertEqual(ended(bare, "a", edits, (0, 2, 1)), "")

    def test_long_lists(self):
        edits = (("put", 1000, "x"), ("put", 0, "y"), ("out", 999))
        self.assertEqual(ended(plain(), LONG, edits, (0, 1, 2)), "y" + LONG[:-1] + "x")
        self.assertEqual(ended(plain(), LONG, edits, (2, 1, 0)), "y" + LONG[:-1] + "x")
        self.assertEqual(ended(plain(), LONG, (("put", 0, "x"),) * 6, (0, 1, 2, 3, 4, 5)), "x" * 6 + LONG)

    def test_a_second_call_returns_the_same(self):
        table, edits, arrival = plain(), (("put", 1, "x"), ("out", 0), ("put", 0, "y")), (1, 2, 0)
        before = (str(table), table.rows, edits, arrival)
        self.assertEqual([ended(table, "b", edits, arrival) for _ in range(3)], ["xy"] * 3)
        self.assertEqual((str(table), table.rows, edits, arrival), before)

    def test_by_position_and_by_name(self):
        edits = (("put", 1, "x"), ("out", 0), ("put", 0, "y"))
        self.assertEqual(ended(plain(), "b", edits, arrival=(0, 1, 2)), "yx")
        self.assertEqual(ended(table=plain(), text="b", edits=edits, arrival=(0, 1, 2)), "yx")
        self.assertEqual(ended(arrival=(1, 2, 0), edits=edits, text="b", table=plain()), "xy")


class Refused(RefusingCase):
    def test_no_table(self):
        for table in odd_values():
            if not isinstance(table, Table):
                self.refused_given(NotATable, table, ended, table, "a", (STAY,), (0,))
        text = str(plain())
        self.refused_given(NotATable, text, ended, text, "a", (STAY,), (0,))

    def test_no_list(self):
        for text in ("A", "a b", "a\n", "1", None, 5, True, b"a", ("a",), ["a"], plain(), LONG + "a", "x" * 2000):
            self.refused_given(InvalidText, text, ended, plain(), text, (STAY,), (0,))

    def test_no_edits(self):
        for edits in (None, (), [], "", "put", 0, True, {}, [STAY], [("put", 0, "x")], {STAY}, range(1), STAY[0]):
            self.refused_index(InvalidEdits, None, ended, plain(), "ab", edits, (0,))

    def test_a_tuple_of_something_else(self):
        for value in odd_values():
            self.refused_index(InvalidEdits, 0, ended, plain(), "ab", (value,), (0,))
            self.refused_index(InvalidEdits, 2, ended, plain(), "ab", (STAY, ("out", 1), value, None), (0, 1, 2, 3))
        self.refused_index(InvalidEdits, 0, ended, plain(), "ab", STAY, (0,))

    def test_edits_of_other_kinds(self):
        for kinds, edit in (
            (("put", "out"), ("set", 0, "x")), (("set",), ("out", 0)), (("out", "set"), ("put", 0, "x")),
            (("put",), ("set", 0, "x")),
        ):
            self.refused_index(InvalidEdits, 0, ended, Table(kinds), "ab", (edit,), (0,))
            self.refused_index(InvalidEdits, 1, ended, Table(kinds), "ab", (STAY, edit, None), (0, 1, 2))

    def test_edits_that_cannot_be_done_on_the_list(self):
        table = Table(("put", "out", "set"))
        for text, edit in (
            ("ab", ("put", 3, "x")), ("ab", ("put", -1, "x")), ("ab", ("out", 2)), ("ab", ("out", -1)),
            ("ab", ("set", 2, "x")), ("ab", ("set", -1, "x")), ("", ("out", 0)), ("", ("set", 0, "x")),
            ("", ("put", 1, "x")), ("ab", ("out", 10 ** 12)), ("ab", ("set", -9, "x")),
        ):
            self.refused_index(InvalidEdits, 0, ended, table, text, (edit,), (0,))
            self.refused_index(InvalidEdits, 1, ended, table, text, (STAY, edit), (0, 1))
        # It could be done behind the first edit, but the edits are made at one time.
        self.refused_index(InvalidEdits, 1, ended, table, "", (("put", 0, "x"), ("out", 0)), (0, 1))

    def test_seven_edits(self):
        for edits in ((STAY,) * 7, (("put", 0, "x"),) * 8, (STAY,) * 6 + (None,), (STAY,) * 40):
            self.refused_index(InvalidEdits, 6, ended, plain(), "ab", edits, tuple(range(len(edits))))
        self.refused_index(InvalidEdits, 4, ended, plain(), "ab", (STAY,) * 4 + (("out", 9),) * 4, None)
        self.assertEqual(ended(plain(), "ab", (STAY,) * 6, (5, 4, 3, 2, 1, 0)), "ab")

    def test_no_arrival(self):
        edits = (STAY, ("out", 0), ("out", 1))
        for arrival in (
            (), (0,), (0, 1), (0, 1, 2, 3), (0, 1, 2, 0), (0, 1, 1), (0, 0, 0), (1, 2, 3), (-1, 0, 1), (0, 1, -1),
            (0, True, 2), (False, 1, 2), (0, 1, None), (0, 1, "2"), (0, 1, (2,)), (0, 1, 10 ** 39),
            [0, 1, 2], "012", range(3), {0, 1, 2}, {0: 0, 1: 1, 2: 2}, None, 0, 3, True, ((0, 1, 2),), b"\0\1\2",
        ):
            self.refused_given(InvalidArrival, arrival, ended, plain(), "ab", edits, arrival)

    def test_odd_arrivals(self):
        for arrival in odd_values() + [nested(8)]:
            if arrival != (0,) or isinstance(arrival, list):
                self.refused_given(InvalidArrival, arrival, ended, plain(), "ab", (("out", 0),), arrival)
        one = (False,)
        self.refused_given(InvalidArrival, one, ended, plain(), "ab", (STAY,), one)

    def test_all_tuples_of_three_integers(self):
        edits = (("out", 0), ("put", 1, "x"), ("out", 1))
        for arrival in itertools.product(range(-1, 4), repeat=3):
            if sorted(arrival) == [0, 1, 2]:
                self.assertIsInstance(ended(plain(), "ab", edits, arrival), str)
            else:
                self.refused_given(InvalidArrival, arrival, ended, plain(), "ab", edits, arrival)

    def test_the_order_of_the_errors(self):
        self.refused_given(NotATable, None, ended, None, "A", None, None)
        self.refused_given(NotATable, "t", ended, arrival=5, edits=(), text="A", table="t")
        self.refused_given(InvalidText, "A", ended, plain(), "A", None, None)
        self.refused_given(InvalidText, "A", ended, arrival=None, edits=(), text="A", table=plain())
        self.refused_index(InvalidEdits, None, ended, plain(), "a", (), ())
        self.refused_index(InvalidEdits, 1, ended, plain(), "a", (STAY, ("out", 1), None), None)
        self.refused_given(InvalidArrival, None, ended, plain(), "a", (STAY,), None)

    def test_nothing_that_is_passed_is_changed(self):
        edits, arrival = [("out", 0)], [0]
        self.refused_index(InvalidEdits, None, ended, plain(), "a", edits, (0,))
        self.refused_given(InvalidArrival, arrival, ended, plain(), "a", (("out", 0),), arrival)
        self.assertEqual([edits, arrival], [[("out", 0)], [0]])


if __name__ == "__main__":
    unittest.main()
