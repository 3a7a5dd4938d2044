"""meeting.keeps and meeting.broken ([2], [3], [4], [5], [12], [13])."""

import itertools
import unittest

from helping import ALL_KINDS, RefusingCase, cells, conditions, odd_values, plain, results
from passedits.errors import InvalidNumber, InvalidPromise, NotATable
from passedits.meeting import broken, keeps
from passedits.runs import ended
from passedits.tables import Table
from playing import PROMISES, Player, all_different, arrivals, can_be_done, good, is_broken

ALL = ("put", "out", "set")


class KeepingCase(unittest.TestCase):
    def asks(self, table, promise, many, expected):
        """Asks for what `keeps` and `broken` are to return."""
        before = (str(table), table.kinds, table.rows)
        found = keeps(table, promise, many)
        if found is not expected:
            self.fail(f"{promise} for {many}: {found!r} with\n{table}")
        case = broken(table, promise, many)
        self.assertEqual(case is None, expected)
        if case is not None:
            self.shows(table, promise, many, case)
        self.assertEqual((str(table), table.kinds, table.rows), before)
        return case

    def asks_for_all(self, table, many, kept):
        """Asks that just these promises are kept."""
        for promise in PROMISES:
            self.asks(table, promise, many, promise in kept.split())

    def shows(self, table, promise, many, case):
        """Asks that the case is right, and that there is none on a shorter list."""
        self.assertIs(type(case), tuple)
        text, edits, arrival = case
        self.assertIs(type(text), str)
        self.assertIs(type(edits), tuple)
        self.assertEqual(len(edits), many)
        self.assertTrue(can_be_done(table.kinds, text, edits), case)
        self.assertTrue(all_different(text, edits), case)
        self.assertIn(arrival, arrivals(many))
        self.assertTrue(is_broken(promise, text, edits, ended(table, text, edits, arrival)), case)
        shortest = Player(table).shortest_break(promise, many, len(text) - 1)
        if shortest is not None:
            self.fail(f"{case} is not as short as there can be one: {shortest} with\n{table}")

    def agrees(self, table, promise, many, longest):
        """Asks for what the lists up to the longest one show, all of them tried."""
        shortest = Player(table).shortest_break(promise, many, longest)
        case = broken(table, promise, many)
        self.assertIs(keeps(table, promise, many), case is None)
        if shortest is not None and (case is None or len(case[0]) != shortest):
            self.fail(f"{promise} for {many}: {case}, but there is one with {shortest} signs with\n{table}")
        if shortest is None and case is not None:
            self.assertGreater(len(case[0]), longest)
            self.shows(table, promise, many, case)


class Keeps(KeepingCase):
    def test_good_tables_keep_all_promises(self):
        for kinds in ALL_KINDS:
            self.asks_for_all(good(kinds), 2, "puts outs kept sets")
            self.asks_for_all(good(kinds), 3, "puts outs kept sets")

    def test_tables_that_do_not_meet_can_keep_promises(self):
        for many in (2, 3):
            self.asks_for_all(Table(("put",)), many, "puts outs kept sets")
            # Two outs at one place take out a neighbour, or cannot be done.
            self.asks_for_all(Table(("out",)), many, "")
            # Behind another set at its place, a set takes that one's sign away, and just one stands.
            self.asks_for_all(Table(("set",)), many, "puts outs kept sets")

    def breaks_only(self, changes, promise):
        """Asks that just this promise is broken by good tables with these other cells, for two sites and for three."""
        for many in (2, 3):
            self.asks(good(ALL, changes), promise, many, False)
        for other in PROMISES:
            self.asks(good(ALL, changes), other, 2, other != promise)

    def test_puts(self):
        for options in ("stay", "first:keep stay", "first:stay up", "less:stay up"):
            self.breaks_only({("put", "put", "="): options}, "puts")
        self.breaks_only({("put", "out", "="): "stay"}, "puts")
        self.breaks_only({("put", "set", "<"): "stay"}, "puts")
        # The sign that was put is overwritten by what was meant for the sign behind it.
        self.asks(good(ALL, {("set", "put", "="): ""}), "puts", 2, False)
        self.asks(good(ALL, {("set", "put", "="): ""}), "sets", 2, False)
        self.asks(good(ALL, {("set", "put", "="): ""}), "kept", 3, True)
        # It is taken out, and the sign behind it stands again.
        self.asks(good(ALL, {("out", "put", "="): ""}), "puts", 3, False)
        self.asks(good(ALL, {("out", "put", "="): ""}), "outs", 2, False)
        self.asks(good(ALL, {("out", "put", "="): ""}), "kept", 2, True)

    def test_outs(self):
        for cell, options in (
            (("out", "put", ">"), "stay"), (("out", "put", "="), "stay"), (("out", "out", ">"), "stay"),
            (("out", "out", "<"), "first:stay keep"), (("out", "set", "<"), "stay"),
        ):
            self.breaks_only({cell: options}, "outs")
        # A set at the place of the out takes its sign away, too; and it puts its own sign back, not that of the list.
        for changes in ({("out", "set", "="): "stay"}, {("set", "out", "="): "put"}):
            for promise in PROMISES:
                self.asks(good(ALL, changes), promise, 2, True)
            self.asks(good(ALL, changes), "outs", 3, True)

    def test_kept(self):
        for many in (2, 3):
            self.asks(good(ALL, {("set", "set", ">"): "down"}), "kept", many, False)
            self.asks(good(ALL, {("out", "set", ">"): "down"}), "kept", many, False)
            self.asks(good(ALL, {("out", "put", ">"): ""}), "kept", many, False)
        self.asks(good(ALL, {("set", "put", ">"): "stay"}), "kept", 2, True)
        self.asks(good(ALL, {("put", "put", ">"): "keep"}), "kept", 2, True)
        self.asks(good(ALL, {("set", "put", "="): "put"}), "kept", 3, True)

    def test_sets(self):
        for many in (2, 3):
            for options in ("stay", "first:stay stay", "less:stay more:stay keep"):
                # Whichever is done first or last stands, and just one.
                self.asks(good(("put", "set"), {("set", "set", "="): options}), "sets", many, True)
            for cell, options in (
                (("set", "set", "="), "put"), (("set", "set", "="), "less:put keep"), (("set", "set", "="), "up"),
                (("set", "put", ">"), "stay"), (("set", "put", "="), "put"), (("set", "set", "<"), "stay"),
            ):
                self.asks(good(ALL, {cell: options}), "sets", many, False)
        # At a place with an out nothing is promised of the sets.
        for options in ("stay", "put"):
            self.asks(good(ALL, {("set", "out", "="): options}), "sets", 2, True)
            self.asks(good(ALL, {("set", "out", "="): options}), "sets", 3, True)

    def test_three_sets_at_one_place(self):
        # The one that stays behind the first one is put again behind none; three are needed to show more.
        for options in ("first:keep stay", "first:keep put", "first:put stay", "more:keep stay", "less:put keep"):
            for promise in ("sets", "kept"):
                self.agrees(good(("put", "set"), {("set", "set", "="): options}), promise, 3, 1)

    def test_two_sets_and_an_out_at_one_place(self):
        table = good(ALL, {("set", "out", "="): "put", ("out", "set", "="): "stay"})
        for promise in PROMISES:
            self.asks(table, promise, 2, True)
            self.agrees(table, promise, 3, 1)

    def test_ends_that_are_none(self):
        for many in (2, 3):
            for kinds, changes in (
                (("put",), {("put", "put", "="): "down"}),
                (("set",), {("set", "set", "="): "first:keep up"}),
                (("put", "set"), {("put", "set", "="): "less:down keep"}),
                (("out", "set"), {("out", "set", "="): "down"}),
                (("put", "out"), {("put", "out", ">"): "keep"}),
            ):
                self.asks_for_all(good(kinds, changes), many, "")


class Signs(KeepingCase):
    def test_signs_that_are_the_same_do_not_count(self):
        for changes in (
            {("put", "put", "="): "same:stay first:keep up"},
            {("put", "put", "="): "same:down less:keep up"},
            {("put", "put", "<"): "same:stay keep"},
            {("set", "set", "="): "same:up less:keep stay"},
            {("set", "put", "="): "same:down up"},
        ):
            self.asks_for_all(good(("put", "set"), changes), 2, "puts outs kept sets")
        self.asks_for_all(good(("put",), {("put", "put", "="): "same:down less:keep up"}), 3, "puts outs kept sets")
        self.asks_for_all(good(("set",), {("set", "set", "="): "same:up less:keep stay"}), 3, "puts outs kept sets")

    def test_each_order_of_signs_counts(self):
        for condition in ("less", "more"):
            for many in (2, 3):
                self.asks(good(("put",), {("put", "put", "="): f"{condition}:stay up"}), "puts", many, False)
                self.asks(good(("set",), {("set", "set", "<"): f"{condition}:stay keep"}), "sets", many, False)

    def test_an_order_of_signs_and_one_of_sites(self):
        for options in ("less:keep first:up stay", "more:keep first:up stay", "first:keep less:up stay",
                        "first:keep more:up stay"):
            for many in (2, 3):
                self.asks(good(("put",), {("put", "put", "="): options}), "puts", many, False)
                self.asks(good(("put",), {("put", "put", "="): options}), "kept", many, True)


class Far(KeepingCase):
    def test_edits_that_are_apart(self):
        # Only a sign that stands between both edits is lost.
        for kinds, cell, result, length in (
            (("set",), ("set", "set", ">"), "down", 3), (("set",), ("set", "set", "<"), "up", 3),
            (("put", "set"), ("set", "put", ">"), "down", 3), (("put", "set"), ("set", "put", "<"), "up", 2),
        ):
            table = good(kinds, {cell: result})
            self.assertEqual(len(self.asks(table, "kept", 2, False)[0]), length)
            self.asks(table, "kept", 3, False)

    def test_three_edits_on_a_shorter_list_than_two(self):
        table = good(("put", "set"), {("set", "put", ">"): "down"})
        self.assertEqual([len(broken(table, "kept", many)[0]) for many in (2, 3)], [3, 2])

    def test_three_sites_that_are_apart(self):
        rows = ("put out > down", "out put > down", "out out = stay", "out out > down", "set put = up", "set put > up",
                "set out = put", "set out > down")
        self.asks(Table(ALL, rows), "sets", 3, False)
        rows = ("put out > down", "out put = up", "out put > up", "out out = stay", "out out > down", "set put = stay",
                "set put > up", "set out = stay", "set out > down", "set set < up")
        self.asks(Table(ALL, rows), "puts", 3, False)

    def test_one_other_cell(self):
        for kinds in (("put", "out"), ("put", "set"), ("out", "set")):
            for mine, its in itertools.product(kinds, kinds):
                for relation, promise in itertools.product(("<", ">"), PROMISES):
                    for result in results(mine, kinds):
                        self.agrees(good(kinds, {(mine, its, relation): result}), promise, 2, 3)


class AllTried(KeepingCase):
    def test_one_other_cell_for_two_sites(self):
        for kinds in ALL_KINDS:
            for cell in cells(kinds):
                for result, promise in itertools.product(results(cell[0], kinds), PROMISES):
                    self.agrees(good(kinds, {cell: result}), promise, 2, 1)

    def test_one_other_condition_for_two_sites(self):
        for mine, its in itertools.product(ALL, ALL):
            for condition, promise in itertools.product(conditions(mine, its), PROMISES):
                for result, last in itertools.permutations(results(mine, ALL), 2):
                    table = good(ALL, {(mine, its, "="): f"{condition}:{result} {last}"})
                    self.agrees(table, promise, 2, 1)

    def test_one_other_cell_for_three_sites(self):
        for kinds in (("put",), ("out",), ("set",), ("put", "set"), ("out", "set")):
            for cell in cells(kinds):
                for result, promise in itertools.product(results(cell[0], kinds), PROMISES):
                    if cell[2] == "=" or len(kinds) == 1:
                        self.agrees(good(kinds, {cell: result}), promise, 3, 1)

    def test_tables_without_rows(self):
        for kinds in ALL_KINDS:
            for promise in PROMISES:
                self.agrees(Table(kinds), promise, 2, 4)
                self.agrees(Table(kinds), promise, 3, 1)

    def test_longer_lists(self):
        for kinds in ALL_KINDS:
            for promise in PROMISES:
                self.agrees(good(kinds), promise, 2, 5)
                if len(kinds) == 1:
                    self.agrees(good(kinds), promise, 3, 4)


class Called(RefusingCase):
    def test_no_table(self):
        for call in (keeps, broken):
            for table in odd_values():
                if not isinstance(table, Table):
                    self.refused_given(NotATable, table, call, table, "puts", 2)

    def test_no_promise(self):
        for call in (keeps, broken):
            for promise in odd_values() + ["Puts", "puts ", " puts", "putsouts", "sets\n", ("puts",), ["puts"],
                                           b"puts", "meets", "sure", "out", "set", "keep", "keeps", {"puts"}]:
                self.refused_given(InvalidPromise, promise, call, plain(), promise, 2)

    def test_other_numbers(self):
        for call in (keeps, broken):
            for many in odd_values() + [4, -2, -3, "2", (2,), [3]]:
                if many not in (2, 3):
                    self.refused_given(InvalidNumber, many, call, plain(), "puts", many)

    def test_the_order_of_the_errors(self):
        for call in (keeps, broken):
            self.refused_given(NotATable, None, call, None, None, None)
            self.refused_given(NotATable, None, call, many=4, promise="put", table=None)
            self.refused_given(InvalidPromise, "put", call, plain(), "put", 4)
            self.refused_given(InvalidPromise, 2, call, plain(), 2, "puts")
            self.refused_given(InvalidNumber, 4, call, plain(), "puts", 4)

    def test_by_position_and_by_name(self):
        table = Table(("out",))
        self.assertIs(keeps(plain(), "puts", many=2), True)
        self.assertIs(keeps(table=plain(), promise="puts", many=2), True)
        self.assertIs(keeps(many=3, promise="outs", table=table), False)
        self.assertEqual(broken(many=3, promise="outs", table=table), broken(table, "outs", 3))
        self.assertIs(broken(table=plain(), promise="puts", many=2), None)

    def test_a_second_call_returns_the_same(self):
        for table in (Table(("out",)), good(ALL, {("set", "set", "="): "up"})):
            for promise, many in itertools.product(PROMISES, (2, 3)):
                found = broken(table, promise, many)
                self.assertEqual(broken(table, promise, many), found)
                self.assertEqual(broken(Table.read(str(table)), promise, many), found)


if __name__ == "__main__":
    unittest.main()
