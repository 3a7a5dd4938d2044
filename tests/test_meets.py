"""meeting.meets and meeting.parted ([2], [3], [4], [5], [10], [11], [13])."""

import itertools
import unittest

from helping import ALL_KINDS, RefusingCase, cells, conditions, odd_values, plain, results
from passedits.errors import InvalidNumber, NotATable
from passedits.meeting import meets, parted
from passedits.runs import ended
from passedits.tables import Table
from playing import Player, arrivals, can_be_done, good

# Puts and outs together never meet for three sites: behind an out, two puts at unlike places are at one place.
MEETING_THREE = (("put",), ("out",), ("set",), ("put", "set"), ("out", "set"))


class MeetingCase(unittest.TestCase):
    def asks(self, table, many, expected):
        """Asks for what `meets` and `parted` are to return."""
        before = (str(table), table.kinds, table.rows)
        found = meets(table, many)
        if found is not expected:
            self.fail(f"meets for {many}: {found!r} with\n{table}")
        case = parted(table, many)
        self.assertEqual(case is None, expected)
        if case is not None:
            self.shows(table, many, case)
        self.assertEqual((str(table), table.kinds, table.rows), before)
        return case

    def shows(self, table, many, case):
        """Asks that the case is right, and that there is none on a shorter list."""
        self.assertIs(type(case), tuple)
        text, edits, one, other = case
        self.assertIs(type(text), str)
        self.assertIs(type(edits), tuple)
        self.assertEqual(len(edits), many)
        self.assertTrue(can_be_done(table.kinds, text, edits), case)
        self.assertIn(one, arrivals(many))
        self.assertIn(other, arrivals(many))
        ends = [ended(table, text, edits, arrival) for arrival in (one, other)]
        self.assertTrue(None in ends or ends[0] != ends[1], case)
        shortest = Player(table).shortest_parting(many, len(text) - 1)
        if shortest is not None:
            self.fail(f"{case} is not as short as there can be one: {shortest} with\n{table}")

    def agrees(self, table, many, longest):
        """Asks for what the lists up to the longest one show, all of them tried."""
        shortest = Player(table).shortest_parting(many, longest)
        case = parted(table, many)
        self.assertIs(meets(table, many), case is None)
        if shortest is not None and (case is None or len(case[0]) != shortest):
            self.fail(f"{case} for {many}, but there is one with {shortest} signs with\n{table}")
        if shortest is None and case is not None:
            self.assertGreater(len(case[0]), longest)
            self.shows(table, many, case)


class Meets(MeetingCase):
    def test_tables_that_meet_for_two_sites(self):
        for kinds in ALL_KINDS:
            self.asks(good(kinds), 2, True)

    def test_tables_without_rows(self):
        for kinds in ALL_KINDS:
            text = self.asks(Table(kinds), 2, False)[0]
            self.assertEqual(len(text), 0 if "put" in kinds else 1)
            text = self.asks(Table(kinds), 3, False)[0]
            self.assertEqual(len(text), 0 if "put" in kinds else 1)

    def test_tables_that_meet_for_three_sites(self):
        for kinds in MEETING_THREE:
            self.asks(good(kinds), 3, True)

    def test_puts_and_outs_do_not_meet_for_three_sites(self):
        for kinds in (("put", "out"), ("put", "out", "set")):
            for options in ("first:keep up", "less:keep more:up keep", "more:keep less:up first:keep up"):
                table = good(kinds, {("put", "put", "="): options})
                self.asks(table, 2, True)
                self.assertEqual(len(self.asks(table, 3, False)[0]), 1)

    def test_sets_that_put_again_what_is_out(self):
        table = good(("put", "out", "set"), {("set", "out", "="): "put", ("out", "set", "="): "stay"})
        self.asks(table, 2, True)
        self.asks(good(("put", "out", "set"), {("set", "out", "="): "put"}), 2, False)
        self.asks(good(("put", "out", "set"), {("out", "set", "="): "stay"}), 2, False)

    def test_one_row_less(self):
        for kinds in ALL_KINDS:
            table = good(kinds)
            for row in table.rows:
                rows = tuple(other for other in table.rows if other != row)
                self.asks(Table(kinds, rows), 2, False)

    def test_the_same_table_written_otherwise(self):
        for kinds in MEETING_THREE:
            rows = good(kinds).rows
            self.asks(Table(kinds, rows[::-1]), 3, True)

    def test_edits_that_all_stay(self):
        for kinds in ALL_KINDS:
            rows = tuple(f"{' '.join(cell)} stay" for cell in cells(kinds))
            self.asks(Table(kinds, rows), 2, False)


class Signs(MeetingCase):
    def test_signs_that_decide(self):
        for many in (2, 3):
            for options in ("less:keep more:up keep", "more:keep less:up stay", "less:keep same:stay up",
                            "less:keep more:up first:keep up"):
                self.asks(good(("put",), {("put", "put", "="): options}), many, True)
            for options in ("less:keep more:stay keep", "more:keep stay", "same:keep first:keep stay",
                            "same:stay less:keep stay"):
                self.asks(good(("set",), {("set", "set", "="): options}), many, True)

    def test_signs_that_are_the_same(self):
        # Only two equal signs show that these do not meet.
        for options in ("less:keep more:up first:keep stay", "same:down first:keep up", "less:up more:keep down"):
            table = good(("put",), {("put", "put", "="): options})
            edits = self.asks(table, 2, False)[1]
            self.assertEqual(edits[0][2], edits[1][2])
        table = good(("set",), {("set", "set", "="): "less:keep more:stay up"})
        edits = self.asks(table, 2, False)[1]
        self.assertEqual(edits[0][2], edits[1][2])

    def test_signs_that_are_not_the_same(self):
        for condition, other in (("less", "more"), ("more", "less")):
            # Only edits whose signs are in one order show it.
            table = good(("put",), {("put", "put", ">"): f"{condition}:keep up"})
            edits = self.asks(table, 2, False)[1]
            self.assertNotEqual(edits[0][2], edits[1][2])
            table = good(("put",), {("put", "put", "<"): f"{other}:down keep"})
            edits = self.asks(table, 2, False)[1]
            self.assertNotEqual(edits[0][2], edits[1][2])

    def test_one_order_of_signs_and_one_of_sites(self):
        for options in ("less:keep more:up first:keep keep", "first:keep less:up keep", "less:keep first:up keep"):
            for many in (2, 3):
                self.agrees(good(("put",), {("put", "put", "="): options}), many, 2)

    def test_three_sites_with_two_signs_that_are_the_same(self):
        for options in ("same:keep first:keep up", "same:up first:keep up", "same:keep less:keep up",
                        "same:stay first:keep up", "less:keep same:up up"):
            self.agrees(good(("put",), {("put", "put", "="): options}), 3, 2)
        for options in ("same:keep first:keep stay", "first:keep same:keep stay", "same:stay first:keep stay",
                        "less:keep first:keep stay", "first:keep more:stay keep"):
            self.agrees(good(("set",), {("set", "set", "="): options}), 3, 2)


class Far(MeetingCase):
    def test_edits_that_are_far_from_one_another(self):
        for kinds in ALL_KINDS:
            for mine, its in itertools.product(kinds, kinds):
                for relation in ("<", ">"):
                    usual = good(kinds)[mine, its, relation][0]
                    for result in results(mine, kinds):
                        table = good(kinds, {(mine, its, relation): result})
                        self.asks(table, 2, result == usual)

    def test_conditions_far_from_one_another(self):
        for mine, its in itertools.product(("put", "out", "set"), repeat=2):
            for relation, condition in itertools.product(("<", ">"), conditions(mine, its)):
                usual = good(("put", "out", "set"))[mine, its, relation][0]
                result = "stay" if usual == "up" else "up"
                cell = (mine, its, relation)
                self.asks(good(("put", "out", "set"), {cell: f"{condition}:{usual} {result}"}), 2, False)
                self.asks(good(("put", "out", "set"), {cell: f"{condition}:{result} {usual}"}), 2, False)
                self.asks(good(("put", "out", "set"), {cell: f"{condition}:{usual} {usual}"}), 2, True)


class AllTried(MeetingCase):
    def test_one_other_cell_for_two_sites(self):
        for kinds in ALL_KINDS:
            for cell in cells(kinds):
                for result in results(cell[0], kinds):
                    self.agrees(good(kinds, {cell: result}), 2, 2)

    def test_one_other_condition_for_two_sites(self):
        for kinds in (("put", "set"), ("put", "out", "set")):
            for mine, its in itertools.product(kinds, kinds):
                for condition in conditions(mine, its):
                    for result, last in itertools.permutations(results(mine, kinds), 2):
                        self.agrees(good(kinds, {(mine, its, "="): f"{condition}:{result} {last}"}), 2, 1)

    def test_two_other_cells_for_two_sites(self):
        kinds = ("put", "out", "set")
        pairs = (("set", "out"), ("set", "put"), ("out", "set"), ("put", "put"), ("set", "set"))
        for one, other in itertools.combinations(pairs, 2):
            for result, last in itertools.product(results(one[0], kinds), results(other[0], kinds)):
                self.agrees(good(kinds, {(*one, "="): result, (*other, "="): last}), 2, 1)

    def test_one_other_cell_for_three_sites(self):
        for kinds in MEETING_THREE:
            for cell in cells(kinds):
                for result in results(cell[0], kinds):
                    self.agrees(good(kinds, {cell: result}), 3, 1)

    def test_some_tables_on_longer_lists(self):
        for kinds in MEETING_THREE[:3]:
            self.agrees(good(kinds), 3, 3)
        for kinds in (("put", "out"), ("put", "out", "set"), ("put", "set"), ("out", "set")):
            self.agrees(good(kinds), 2, 6)

    def test_bare_tables_with_one_row(self):
        for kinds in ALL_KINDS[:6]:
            for cell in cells(kinds):
                for result in results(cell[0], kinds):
                    self.agrees(Table(kinds, (" ".join([*cell, result]),)), 2, 1)


class Called(RefusingCase):
    def test_no_table(self):
        for call in (meets, parted):
            for table in odd_values():
                if not isinstance(table, Table):
                    self.refused_given(NotATable, table, call, table, 2)

    def test_other_numbers(self):
        for call in (meets, parted):
            for many in odd_values() + [4, -2, -3, 22, "2", (2,), (3,), [2], "3", ("meets", 2)]:
                if many not in (2, 3):
                    self.refused_given(InvalidNumber, many, call, plain(), many)

    def test_the_order_of_the_errors(self):
        for call in (meets, parted):
            self.refused_given(NotATable, None, call, None, None)
            self.refused_given(NotATable, None, call, many=4, table=None)
            self.refused_given(InvalidNumber, None, call, plain(), None)

    def test_by_position_and_by_name(self):
        self.assertIs(meets(plain(), many=2), True)
        self.assertIs(meets(table=plain(), many=2), True)
        self.assertIs(meets(many=3, table=plain()), False)
        self.assertIs(parted(plain(), many=2), None)
        self.assertIs(parted(many=2, table=plain()), None)
        self.assertEqual(parted(many=3, table=plain()), parted(plain(), 3))

    def test_a_second_call_returns_the_same(self):
        for table, many in ((plain(), 3), (Table(("set",)), 2), (Table(("put", "out", "set")), 3)):
            again = Table.read(str(table))
            self.assertEqual(parted(table, many), parted(table, many))
            self.assertEqual(parted(table, many), parted(again, many))
            self.assertEqual([meets(table, many), meets(again, many)], [False, False])


if __name__ == "__main__":
    unittest.main()
