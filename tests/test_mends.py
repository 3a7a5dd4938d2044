"""mends.holds and mends.mends ([2], [3], [4], [5], [14])."""

import itertools
import unittest

from helping import ALL_KINDS, RefusingCase, nested, odd_values, plain
from passedits.errors import InvalidChanges, InvalidWish, InvalidWishes, NotATable
from passedits.meeting import keeps, meets, sure
from passedits.mends import holds, mends
from passedits.tables import Table
from playing import PROMISES, good

ALL = ("put", "out", "set")
SURE = ("sure",)
MEETS = ("meets", 2)
WISHES = (MEETS, ("meets", 3), SURE) + tuple(("keeps", promise, many) for promise in PROMISES for many in (2, 3))
WRONG_WISHES = (
    (), ("meets",), ("meets", 1), ("meets", 4), ("meets", 2, 2), ("meets", True), ("meets", "2"), ("meets", None),
    ("meets", (2,)), ("meets", "puts", 2), ("Meets", 2), ("meet", 2), ("meets ", 2), (b"meets", 2), (2, "meets"),
    SURE * 2, ("sure", 2), ("sure", None), ("Sure",), (SURE,), ("unsure",), (True,), (None,), (2,),
    ("keeps",), ("keeps", "puts"), ("keeps", 2), ("keeps", 2, "puts"), ("keeps", "put", 2), ("keeps", "puts", 4),
    ("keeps", "puts", False), ("keeps", "puts", 2, 3), ("keeps", "Puts", 2), ("keeps", ("puts",), 2),
    ("keeps", None, 2), ("keeps", "puts", None), ("keeps", "meets", 2), ("keep", "puts", 2), ("puts", 2),
    ("alike", "a", "b"), ("holds", SURE), ("plain", MEETS), (MEETS,),
    ["meets", 2], ["sure"], ["keeps", "puts", 2], "sure", "meets", {"sure"}, {"meets": 2}, "meets 2", nested(8),
)


class Holds(RefusingCase):
    def test_each_form(self):
        for kinds in ALL_KINDS:
            for table in (Table(kinds), good(kinds)):
                self.assertIs(holds(table, ("meets", 2)), meets(table, 2))
                self.assertIs(holds(table, ("meets", 3)), meets(table, 3))
                self.assertIs(holds(table, ("sure",)), sure(table))
                for promise in PROMISES:
                    self.assertIs(holds(table, ("keeps", promise, 2)), keeps(table, promise, 2))
        for promise in PROMISES:
            for table in (good(("put", "set")), Table(("out",))):
                self.assertIs(holds(table, ("keeps", promise, 3)), keeps(table, promise, 3))

    def test_which_wishes_hold(self):
        for table, expected in (
            (plain(), {wish for wish in WISHES if wish not in (("meets", 3), SURE)}),
            (good(("out", "set")), set(WISHES)),
            (Table(("put",)), {wish for wish in WISHES if wish[0] == "keeps"}),
            (Table(("out",)), set()),
            (good(("set",), {("set", "set", "="): "same:keep first:keep stay"}), set(WISHES) - {SURE}),
            (good(("put",), {("put", "put", "="): "stay"}),
             {wish for wish in WISHES if wish[0] == "keeps" and wish[1] != "puts"}),
        ):
            for wish in WISHES:
                self.assertIs(holds(table, wish), wish in expected, (str(table), wish))

    def test_no_table(self):
        for table in odd_values():
            if not isinstance(table, Table):
                self.refused_given(NotATable, table, holds, table, SURE)

    def test_no_wish(self):
        for wish in odd_values() + list(WRONG_WISHES):
            self.refused_given(InvalidWish, wish, holds, plain(), wish)

    def test_the_order_of_the_errors(self):
        self.refused_given(NotATable, None, holds, None, None)
        self.refused_given(NotATable, "t", holds, wish=None, table="t")
        self.refused_given(InvalidWish, None, holds, wish=None, table=plain())

    def test_by_position_and_by_name(self):
        self.assertIs(holds(plain(), wish=MEETS), True)
        self.assertIs(holds(table=plain(), wish=MEETS), True)
        self.assertIs(holds(wish=SURE, table=plain()), False)

    def test_a_second_call_returns_the_same(self):
        table = plain()
        before = (str(table), table.rows)
        self.assertEqual([[holds(table, wish) for wish in WISHES] for _ in range(2)],
                         [[holds(plain(), wish) for wish in WISHES]] * 2)
        self.assertEqual((str(table), table.rows), before)


class MendingCase(unittest.TestCase):
    def asks(self, table, wishes, changes, expected):
        """Asks for what `mends` is to return."""
        before = (str(table), table.rows, wishes, changes)
        found = mends(table, wishes, changes)
        self.assertEqual(found, expected)
        self.assertIs(type(found), tuple)
        for part in found:
            self.assertIs(type(part), tuple)
        self.assertEqual((str(table), table.rows, wishes, changes), before)

    def agrees(self, table, wishes, changes):
        """Asks for what all sets of the changes show, each of them tried."""
        mending = []
        for many in range(len(changes) + 1):
            for part in itertools.combinations(range(len(changes)), many):
                changed = table
                for index in part:
                    changed = changed.changed(changes[index])
                if all(holds(changed, wish) for wish in wishes):
                    mending.append(part)
        least = [part for part in mending if not any(set(other) < set(part) for other in mending)]
        self.asks(table, wishes, changes, tuple(least))
        return mending


class Mends(MendingCase):
    def test_no_wishes(self):
        for table in (plain(), Table(("out",))):
            self.asks(table, (), (), ((),))
            self.asks(table, (), ("out out = stay", "out out > down"), ((),))

    def test_wishes_that_hold(self):
        self.asks(plain(), (MEETS, ("keeps", "puts", 2)), (), ((),))
        self.asks(plain(), (MEETS,), ("out out = stay", "put put = keep", "put out < up"), ((),))
        self.asks(good(("set",)), (MEETS, ("meets", 3), SURE, MEETS, SURE, MEETS), (), ((),))

    def test_no_changes(self):
        self.asks(Table(("put",)), (MEETS,), (), ())
        self.asks(plain(), (MEETS, SURE), (), ())

    def test_one_change(self):
        table = Table(("put",), ("put put > up",))
        self.asks(table, (MEETS,), ("put put = first:keep up",), ((0,),))
        self.asks(table, (MEETS,), ("put put < keep", "put put = first:keep up", "put put > up"), ((1,),))
        self.asks(Table(("set",)), (SURE,), ("set set = first:keep stay",), ((0,),))
        self.asks(plain(), (MEETS, ("keeps", "outs", 3)), ("out put < up", "put out > down"), ((),))

    def test_several_changes(self):
        changes = ("put put = first:keep up", "put put > up")
        self.asks(Table(("put",)), (MEETS,), changes, ((0, 1),))
        self.asks(Table(("put",)), (MEETS,), changes[::-1], ((0, 1),))
        self.asks(Table(("put",)), (SURE,), ("put put < keep",) + changes, ((1, 2),))
        rows = tuple(row for row in good(("put", "out")).rows if row != "put put = first:keep up")
        self.asks(Table(("put", "out"), ("put put = first:keep up",)), (MEETS,), rows, ((0, 1, 2, 3, 4, 5),))

    def test_several_least_sets(self):
        # What a set is at the place of an out, and what the out is there, have to go together.
        table = good(ALL, {("set", "out", "="): "put"})
        self.asks(table, (MEETS,), ("set out = stay", "out set = stay"), ((0,), (1,)))
        self.asks(table, (MEETS,), ("put put > up", "out set = stay", "set out > down", "set out = stay"), ((1,), (3,)))
        table = good(ALL, {("set", "out", "="): "put", ("out", "out", "="): ""})
        self.asks(table, (MEETS,), ("out set = stay", "set out = stay", "out out = stay"), ((0, 2), (1, 2)))
        self.asks(table, (MEETS,), ("out out = stay", "set out = stay", "out set = stay"), ((0, 1), (0, 2)))
        self.asks(table, (MEETS,), ("out set = stay", "out out = stay", "set out = stay"), ((0, 1), (1, 2)))
        table = good(ALL, {("set", "put", "="): "first:up keep", ("out", "set", "="): "stay"})
        changes = ("put set = keep", "out set = keep", "set put = up", "set out = put", "put set > keep")
        self.asks(table, (MEETS,), changes, ((1, 2), (2, 3)))

    def test_least_sets_of_several_lengths(self):
        table = good(("put", "set"), {("set", "set", ">"): "down", ("set", "set", "<"): "first:keep up"})
        wishes = (("keeps", "puts", 3),)
        changes = ("set set > put", "set put < put", "set set < keep")
        for order, expected in (
            ((0, 1, 2), ((1,), (0, 2))), ((0, 2, 1), ((2,), (0, 1))), ((1, 0, 2), ((0,), (1, 2))),
        ):
            self.asks(table, wishes, tuple(changes[index] for index in order), expected)
        self.agrees(table, wishes, changes)

    def test_the_order_of_equally_long_sets(self):
        table = good(("put", "set"), {("set", "set", ">"): "down", ("set", "set", "<"): "up"})
        wishes = (("keeps", "puts", 3),)
        changes = ("set set < keep", "set set > keep", "set put = put", "set put > stay")
        for order, expected in (
            ((0, 1, 2, 3), ((0, 1), (0, 2), (2, 3))), ((3, 2, 1, 0), ((0, 1), (1, 3), (2, 3))),
            ((2, 0, 3, 1), ((0, 1), (0, 2), (1, 3))),
        ):
            self.asks(table, wishes, tuple(changes[index] for index in order), expected)
        self.agrees(table, wishes, changes)

    def test_more_changes_can_break_what_less_mend(self):
        table = good(ALL, {("set", "out", "="): "put"})
        changes = ("set out = stay", "out set = stay", "put put = less:keep more:up keep", "out out = keep")
        mending = self.agrees(table, (MEETS,), changes)
        self.assertIn((0,), mending)
        self.assertNotIn((0, 1), mending)
        self.assertIn((0, 2), mending)
        self.assertNotIn((0, 3), mending)

    def test_nothing_that_mends(self):
        self.asks(plain(), (("meets", 3),), ("put put = less:keep more:up keep", "out out = keep"), ())
        self.asks(plain(), (SURE,), ("put put = stay", "put out = stay", "out put = stay", "out out = down"), ())
        self.asks(Table(("put",)), (MEETS,), ("put put = first:keep up", "put put < up"), ())
        # Each wish can be mended, but not both.
        table = Table(("put",), ("put put = stay", "put put > up"))
        self.asks(table, (("keeps", "puts", 2),), ("put put = keep",), ((0,),))
        self.asks(table, (MEETS,), ("put put = keep",), ())

    def test_all_wishes_count(self):
        table = Table(("put",), ("put put = stay", "put put > down"))
        changes = ("put put = first:keep up", "put put > up")
        puts = ("keeps", "puts", 2)
        kept = ("keeps", "kept", 2)
        for wishes, expected in (
            ((kept,), ((),)), ((puts,), ((0,),)), ((MEETS,), ((0, 1),)), ((puts, kept), ((0,),)),
            ((puts, MEETS), ((0, 1),)), ((MEETS, puts), ((0, 1),)), ((kept, kept, SURE), ((0, 1),)),
        ):
            self.asks(table, wishes, changes, expected)
        table = good(ALL, {("set", "put", "="): "", ("out", "put", "="): ""})
        changes = ("set put = up", "out put = up")
        for wishes, expected in (
            ((("keeps", "sets", 2),), ((0,),)), ((("keeps", "outs", 2),), ((1,),)), ((puts,), ((0, 1),)),
            ((("keeps", "outs", 2), ("keeps", "sets", 2)), ((0, 1),)), ((kept,), ((),)),
        ):
            self.asks(table, wishes, changes, expected)

    def test_a_change_that_is_the_row_already_there(self):
        self.asks(plain(), (SURE,), plain().rows[:6], ())
        self.asks(plain(), (MEETS,), plain().rows[:6], ((),))

    def test_six_changes_and_six_wishes(self):
        rows = good(("put", "set")).rows
        changes = ("set set > keep",) + rows
        self.assertEqual(len(changes), 6)
        wishes = (MEETS, SURE, MEETS, ("keeps", "puts", 2), ("keeps", "sets", 2), ("keeps", "kept", 2))
        self.asks(Table(("put", "set")), wishes, changes, ((1, 2, 3, 4, 5),))
        self.asks(Table(("put", "set"), rows[:2]), wishes, changes, ((3, 4, 5),))
        self.asks(good(("put", "set")), wishes, changes, ((),))

    def test_many_sets(self):
        table = good(ALL, {
            ("set", "out", "="): "put", ("put", "put", "="): "up", ("set", "set", "="): "keep",
        })
        changes = ("set out = stay", "set set = less:keep more:stay keep", "put put = first:keep up", "out set = stay",
                   "out out < keep", "put out = keep")
        self.asks(table, (MEETS,), changes, ((0, 1, 2), (1, 2, 3)))
        self.asks(table, (("keeps", "puts", 2),), changes, ((),))


class AllTried(MendingCase):
    def test_single_wishes(self):
        for table, changes in (
            (Table(("put",)), ("put put > up", "put put = less:keep more:up keep", "put put < up")),
            (Table(("set",)), ("set set = stay", "set set < keep", "set set > up")),
            (Table(("out",), ("out out > keep",)), ("out out > down", "out out = stay", "out out < stay")),
            (Table(("out", "set"), ("out out = stay", "out out > down")),
             ("set out > down", "set set = first:keep stay", "set out = stay", "out set = stay")),
        ):
            for wish in WISHES:
                self.agrees(table, (wish,), changes)
                self.agrees(table, (wish, ("keeps", "puts", 2)), changes)

    def test_pairs_that_go_together(self):
        changes = ("set out = stay", "out set = stay", "set out > down", "out out = stay", "put out > keep")
        for one, other in itertools.product(("", "stay", "put"), ("", "stay")):
            table = good(ALL, {("set", "out", "="): one, ("out", "set", "="): other})
            self.agrees(table, (MEETS,), changes)
            self.agrees(table, (("keeps", "outs", 2), ("keeps", "sets", 2)), changes)


class Refused(RefusingCase):
    def test_no_table(self):
        for table in odd_values():
            if not isinstance(table, Table):
                self.refused_given(NotATable, table, mends, table, (), ())

    def test_no_tuple_of_wishes(self):
        for wishes in (None, [], [MEETS], {MEETS}, {}, "", "sure", 0, True, MEETS[0], range(0), plain(), b""):
            self.refused_index(InvalidWishes, None, mends, plain(), wishes, ())

    def test_what_is_no_wish(self):
        for wish in odd_values() + list(WRONG_WISHES):
            self.refused_index(InvalidWishes, 0, mends, plain(), (wish,), ())
            self.refused_index(InvalidWishes, 2, mends, plain(), (MEETS, SURE, wish, None), ())
        self.refused_index(InvalidWishes, 0, mends, plain(), MEETS, ())
        self.refused_index(InvalidWishes, 0, mends, plain(), SURE, ())

    def test_seven_wishes(self):
        for wishes in ((MEETS,) * 7, (SURE,) * 9, (MEETS,) * 6 + (None,)):
            self.refused_index(InvalidWishes, 6, mends, plain(), wishes, ())
        self.refused_index(InvalidWishes, 5, mends, plain(), (MEETS,) * 5 + (None, MEETS), ())
        self.assertEqual(mends(plain(), (MEETS,) * 6, ()), ((),))

    def test_no_tuple_of_changes(self):
        for changes in (None, [], ["put put = keep"], {}, "", "put put = keep", 0, False, range(0), plain(), b""):
            self.refused_index(InvalidChanges, None, mends, plain(), (), changes)

    def test_what_is_no_change(self):
        for change in odd_values() + [
            "put put", "put put =", "put put = ", " put put = keep", "put  put = keep", "put put = keep ",
            "put set = keep", "set put = keep", "put put = put", "out out = less:up keep", "put put == keep",
            "put put = first:keep", "put put = keep keep", "put put = up first:up", "kinds put out",
            "put put = first:up first:up first:up first:up first:up keep", "put put = keep\n", ("put", "put", "="),
        ]:
            self.refused_index(InvalidChanges, 0, mends, plain(), (), (change,))
            self.refused_index(InvalidChanges, 1, mends, plain(), (), ("put put = keep", change, None))
        self.refused_index(InvalidChanges, 0, mends, good(("set",)), (), ("set set = put",))
        self.assertEqual(mends(good(("put", "set")), (), ("set set = put",)), ((),))

    def test_two_changes_for_one_cell(self):
        for changes, index in (
            (("put put = keep", "put put = keep"), 1), (("put put = keep", "put put = up"), 1),
            (("put put = keep", "put put < keep", "out out = keep", "put put < first:up keep", None), 3),
            (("put put = keep", None, "put put = keep"), 1),
        ):
            self.refused_index(InvalidChanges, index, mends, plain(), (), changes)
        self.assertEqual(mends(plain(), (), ("put put = keep", "put put > keep", "put out = keep", "out put = up")),
                         ((),))

    def test_seven_changes(self):
        rows = plain().rows
        self.assertEqual(len(rows), 7)
        self.refused_index(InvalidChanges, 6, mends, plain(), (), rows)
        self.refused_index(InvalidChanges, 6, mends, plain(), (), rows[:6] + rows[:1])
        self.refused_index(InvalidChanges, 6, mends, plain(), (), rows[:6] + (None, None))
        self.refused_index(InvalidChanges, 6, mends, plain(), (), rows + (None,))
        self.refused_index(InvalidChanges, 6, mends, plain(), (), rows + rows)
        self.refused_index(InvalidChanges, 5, mends, plain(), (), rows[:5] + (None, None))
        self.refused_index(InvalidChanges, 4, mends, plain(), (), rows[:4] + rows[3:])
        self.assertEqual(mends(plain(), (), rows[:6]), ((),))

    def test_the_order_of_the_errors(self):
        self.refused_given(NotATable, None, mends, None, None, None)
        self.refused_given(NotATable, None, mends, changes=None, wishes=(None,), table=None)
        self.refused_index(InvalidWishes, None, mends, plain(), None, None)
        self.refused_index(InvalidWishes, 1, mends, changes=(None,), wishes=(SURE, None), table=plain())
        self.refused_index(InvalidChanges, None, mends, plain(), (SURE,), None)

    def test_by_position_and_by_name(self):
        table, changes = Table(("put",), ("put put > up",)), ("put put = first:keep up",)
        self.assertEqual(mends(table, (MEETS,), changes=changes), ((0,),))
        self.assertEqual(mends(table=table, wishes=(MEETS,), changes=changes), ((0,),))
        self.assertEqual(mends(changes=changes, wishes=(MEETS,), table=table), ((0,),))

    def test_nothing_that_is_passed_is_changed(self):
        wishes, changes = [MEETS], ["put put = keep"]
        self.refused_index(InvalidWishes, None, mends, plain(), wishes, ())
        self.refused_index(InvalidChanges, None, mends, plain(), (), changes)
        self.assertEqual([wishes, changes], [[MEETS], ["put put = keep"]])

    def test_a_second_call_returns_the_same(self):
        table = good(ALL, {("set", "out", "="): "put"})
        changes = ("set out = stay", "out set = stay")
        self.assertEqual([mends(table, (MEETS,), changes) for _ in range(3)], [((0,), (1,))] * 3)


if __name__ == "__main__":
    unittest.main()
