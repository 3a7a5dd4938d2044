"""meeting.sure and meeting.unsure ([3], [4], [5], [11], [13], and [16] as to what `unsure` returns)."""

import itertools
import unittest

from helping import ALL_KINDS, RefusingCase, cells, conditions, odd_values, plain, results
from passedits.errors import NotATable
from passedits.meeting import meets, sure, unsure
from passedits.runs import done
from passedits.tables import Table
from playing import Player, can_be_done, good

SURE = (("put",), ("out",), ("set",), ("put", "set"), ("out", "set"))


class SureCase(unittest.TestCase):
    def asks(self, table, expected):
        """Asks for what `sure` is to return, and for a case of `unsure` just if the table meets but is not sure."""
        before = (str(table), table.kinds, table.rows)
        found = sure(table)
        if found is not expected:
            self.fail(f"sure: {found!r} with\n{table}")
        case = unsure(table)
        if not expected and meets(table, 2):
            self.shows(table, case)
        else:
            self.assertIs(case, None)
        self.assertEqual((str(table), table.kinds, table.rows), before)

    def shows(self, table, case):
        """Asks that the case is right."""
        self.assertIs(type(case), tuple)
        text, edits, roles = case
        self.assertIs(type(text), str)
        self.assertIs(type(edits), tuple)
        self.assertIs(type(roles), tuple)
        self.assertEqual(len(edits), 3)
        self.assertEqual(sorted(roles), [0, 1, 2])
        self.assertTrue(can_be_done(table.kinds, text, edits), case)
        for edit in edits:
            self.assertIsInstance(done(text, edit), str)
        a, b, c = roles
        one = table.passed(edits[b], edits[a], b < a)
        other = table.passed(edits[a], edits[b], a < b)
        self.assertNotEqual(
            table.passed(table.passed(edits[c], edits[a], c < a), one, c < b),
            table.passed(table.passed(edits[c], edits[b], c < b), other, c < a),
        )

    def agrees(self, table):
        """Asks for what all edits on a list of four signs show."""
        self.asks(table, meets(table, 2) and Player(table).is_sure())


class Sure(SureCase):
    def test_sure_tables(self):
        for kinds in SURE:
            self.asks(good(kinds), True)

    def test_tables_that_do_not_meet_for_two_sites(self):
        for kinds in ALL_KINDS:
            # Edits that are never turned are alike in all ways, but their arrivals do not meet.
            self.asks(Table(kinds), False)
            self.assertIs(unsure(Table(kinds)), None)

    def test_puts_and_outs(self):
        for kinds in (("put", "out"), ("put", "out", "set")):
            for options in ("first:keep up", "less:keep more:up keep"):
                table = good(kinds, {("put", "put", "="): options})
                self.assertIs(meets(table, 2), True)
                self.asks(table, False)

    def test_tables_that_meet_for_three_sites_and_are_not_sure(self):
        for options in ("same:keep first:keep stay", "first:keep same:keep stay"):
            table = good(("set",), {("set", "set", "="): options})
            self.assertIs(meets(table, 3), True)
            self.asks(table, False)

    def test_tables_that_are_not_sure_for_the_sake_of_equal_signs(self):
        for options in ("same:keep first:keep up", "same:keep first:up keep"):
            table = good(("put",), {("put", "put", "="): options})
            self.assertIs(meets(table, 2), True)
            self.asks(table, False)
        for changes in (
            {("put", "put", "="): "more:up keep", ("put", "set", "="): "same:up keep"},
            {("put", "set", "="): "same:up keep"},
            {("put", "put", "="): "less:keep up", ("put", "set", "="): "same:up keep",
             ("set", "set", "="): "more:stay keep"},
        ):
            self.agrees(good(("put", "set"), changes))

    def test_signs_that_decide(self):
        for options in ("less:keep more:up keep", "more:keep less:up stay", "less:keep same:stay up"):
            self.asks(good(("put",), {("put", "put", "="): options}), True)
        for options in ("less:keep more:stay keep", "more:keep stay"):
            self.asks(good(("set",), {("set", "set", "="): options}), True)


class AllTried(SureCase):
    def test_one_other_cell(self):
        for kinds in SURE:
            for cell in cells(kinds):
                for result in results(cell[0], kinds):
                    table = good(kinds, {cell: result})
                    if meets(table, 2):
                        self.agrees(table)
                    else:
                        self.asks(table, False)

    def test_one_other_condition(self):
        for kinds in (("put",), ("set",), ("put", "set")):
            for mine, its in itertools.product(kinds, kinds):
                for one, other in itertools.product(conditions(mine, its), repeat=2):
                    for result, last in itertools.permutations(results(mine, kinds), 2):
                        table = good(kinds, {(mine, its, "="): f"{one}:{result} {other}:{last} {result}"})
                        if len(kinds) == 1 and meets(table, 2):
                            self.agrees(table)
                        elif not meets(table, 2):
                            self.asks(table, False)


class Called(RefusingCase):
    def test_no_table(self):
        for call in (sure, unsure):
            for table in odd_values():
                if not isinstance(table, Table):
                    self.refused_given(NotATable, table, call, table)

    def test_by_position_and_by_name(self):
        self.assertIs(sure(table=plain()), False)
        self.assertEqual(unsure(table=plain()), unsure(plain()))
        self.refused_given(NotATable, 5, sure, table=5)
        self.refused_given(NotATable, 5, unsure, table=5)

    def test_a_second_call_returns_the_same(self):
        for table in (plain(), good(("put", "out", "set"))):
            self.assertEqual(unsure(table), unsure(table))
            self.assertEqual(unsure(table), unsure(Table.read(str(table))))
            self.assertEqual([sure(table), sure(table)], [False, False])


if __name__ == "__main__":
    unittest.main()
