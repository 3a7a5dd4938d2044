"""meeting.alike and meeting.unlike ([3], [4], [5], [15] as to when tables are alike, [16] as to what is returned)."""

import itertools
import unittest

from helping import ALL_KINDS, RefusingCase, cells, conditions, odd_values, plain, results
from passedits.errors import NotATable, OtherKinds
from passedits.meeting import alike, unlike
from passedits.tables import Table
from playing import good

PLACES = {"<": (3, 4), "=": (4, 4), ">": (5, 4)}


class AlikeCase(unittest.TestCase):
    def asks(self, one, other, expected):
        """Asks for what `alike` and `unlike` are to return, with the tables in both orders."""
        before = (str(one), str(other))
        for mine, its in ((one, other), (other, one)):
            found = alike(mine, its)
            if found is not expected:
                self.fail(f"alike: {found!r} with\n{mine}\nand\n{its}")
            case = unlike(mine, its)
            self.assertEqual(case is None, expected)
            if case is not None:
                self.shows(mine, its, case)
        self.assertEqual((str(one), str(other)), before)

    def shows(self, one, other, case):
        """Asks that the case is right."""
        self.assertIs(type(case), tuple)
        edit, past, first = case
        self.assertIn(type(first), (bool,))
        self.assertIs(type(edit), tuple)
        self.assertIs(type(past), tuple)
        # `passed` refuses what are no edits of these kinds.
        self.assertNotEqual(one.passed(edit, past, first), other.passed(edit, past, first))

    def agrees(self, one, other):
        """Asks for what edits at neighbouring places show, their signs in all orders."""
        expected = True
        for mine, its in itertools.product(one.kinds, repeat=2):
            for places, signs, first in itertools.product(PLACES.values(), ("bc", "bb", "cb"), (True, False)):
                edits = [
                    (kind, place) if kind == "out" else (kind, place, sign)
                    for kind, place, sign in zip((mine, its), places, signs)
                ]
                expected = expected and one.passed(*edits, first) == other.passed(*edits, first)
        self.asks(one, other, expected)


class Alike(AlikeCase):
    def test_one_table_with_itself(self):
        for kinds in ALL_KINDS:
            table = good(kinds)
            self.asks(table, table, True)
            self.asks(table, good(kinds), True)
            self.asks(Table(kinds), Table(kinds), True)

    def test_rows_in_another_order(self):
        for kinds in ALL_KINDS:
            rows = good(kinds).rows
            for moved in (rows[::-1], rows[1:] + rows[:1]):
                self.asks(Table(kinds, rows), Table(kinds, moved), True)

    def test_keep_written_out(self):
        for kinds in ALL_KINDS:
            for cell in cells(kinds):
                for options in ("keep", "first:keep keep", "first:keep first:keep keep"):
                    self.asks(Table(kinds), Table(kinds, (" ".join([*cell, options]),)), True)

    def test_conditions_that_decide_nothing(self):
        kinds = ("put", "out", "set")
        for cell, one, other in (
            (("put", "put", "="), "up", "first:up up"),
            (("put", "put", "="), "up", "less:up more:up same:up down"),
            (("put", "put", "="), "up", "less:up same:up more:up up"),
            (("put", "put", "="), "first:up down", "first:up first:stay down"),
            (("put", "put", "="), "first:up down", "first:up less:down more:down down"),
            (("put", "put", "="), "less:up more:down stay", "more:down less:up stay"),
            (("put", "put", "="), "less:up more:down stay", "same:stay less:up down"),
            (("put", "put", "="), "less:up more:down stay", "less:up same:stay more:down keep"),
            (("set", "put", ">"), "first:up less:up put", "less:up first:up put"),
            (("set", "set", "<"), "less:up first:up down", "first:up less:up down"),
            (("out", "out", "="), "first:up stay", "first:up first:down stay"),
            (("out", "set", ">"), "stay", "first:stay stay"),
        ):
            tables = [Table(kinds, (" ".join([*cell, options]),)) for options in (one, other)]
            self.asks(*tables, True)
            self.asks(*[good(kinds, {cell: options}) for options in (one, other)], True)


class Unlike(AlikeCase):
    def test_one_other_result(self):
        for kinds in ALL_KINDS:
            for cell in cells(kinds):
                tables = [Table(kinds, (" ".join([*cell, result]),)) for result in results(cell[0], kinds)]
                for one, other in itertools.combinations(tables, 2):
                    self.asks(one, other, False)

    def test_one_cell_that_is_not_written(self):
        for kinds in ALL_KINDS:
            rows = good(kinds).rows
            for row in rows:
                self.asks(Table(kinds, rows), Table(kinds, tuple(other for other in rows if other != row)), False)

    def test_one_condition(self):
        kinds = ("put", "out", "set")
        for cell in cells(kinds):
            for condition in conditions(*cell[:2]):
                self.asks(Table(kinds), Table(kinds, (f"{' '.join(cell)} {condition}:stay keep",)), False)
                self.asks(Table(kinds), Table(kinds, (f"{' '.join(cell)} {condition}:keep stay",)), False)

    def test_one_order_of_signs_of_one_site(self):
        for one, other in (
            ("less:up first:up stay", "less:up first:up same:down stay"),
            ("less:up first:up stay", "less:up first:up more:down stay"),
            ("less:up more:up first:up stay", "less:up more:up first:down stay"),
            ("first:up less:up stay", "first:up less:down stay"),
            ("first:up same:up stay", "first:up same:down stay"),
        ):
            for cell in (("put", "put", "<"), ("set", "put", "="), ("put", "set", ">"), ("set", "set", "=")):
                tables = [Table(("put", "set"), (" ".join([*cell, options]),)) for options in (one, other)]
                self.asks(*tables, False)

    def test_all_pairs_of_options_in_one_cell(self):
        for mine, its in (("put", "put"), ("out", "put"), ("set", "out")):
            kinds = ("put", "out", "set")
            rows = [
                f"{mine} {its} = {condition}:{result} {last}"
                for condition in conditions(mine, its)
                for result, last in itertools.product(results(mine, kinds)[1:4], repeat=2)
            ]
            for one, other in itertools.combinations_with_replacement(rows, 2):
                self.agrees(Table(kinds, (one,)), Table(kinds, (other,)))


class Called(RefusingCase):
    def test_no_table(self):
        for call in (alike, unlike):
            for table in odd_values():
                if not isinstance(table, Table):
                    self.refused_given(NotATable, table, call, table, plain())
                    self.refused_given(NotATable, table, call, plain(), table)
                    self.refused_given(NotATable, table, call, table, None)

    def test_other_kinds(self):
        for call in (alike, unlike):
            for kinds, others in itertools.permutations(ALL_KINDS, 2):
                one, other = Table(kinds), good(others)
                self.refused_given(OtherKinds, other, call, one, other)

    def test_the_order_of_the_errors(self):
        for call in (alike, unlike):
            self.refused_given(NotATable, "one", call, "one", "other")
            self.refused_given(NotATable, "one", call, other="other", one="one")
            self.refused_given(NotATable, "other", call, Table(("put",)), "other")

    def test_by_position_and_by_name(self):
        one, other = Table(("put",)), Table(("put",), ("put put = up",))
        self.assertIs(alike(one, other=one), True)
        self.assertIs(alike(other=other, one=one), False)
        self.assertEqual(unlike(other=other, one=one), unlike(one, other))
        self.assertIs(unlike(other=one, one=one), None)
        set_table = Table(("set",))
        self.refused_given(OtherKinds, set_table, alike, other=set_table, one=one)

    def test_a_second_call_returns_the_same(self):
        one, other = plain(), Table(("put", "out"))
        self.assertEqual(unlike(one, other), unlike(one, other))
        self.assertEqual(unlike(one, other), unlike(Table.read(str(one)), Table.read(str(other))))
        self.assertEqual([alike(one, other), alike(one, other)], [False, False])


if __name__ == "__main__":
    unittest.main()
