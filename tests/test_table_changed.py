"""table.changed, and that tables stay as they are ([3], [14])."""

import unittest

from helping import ALL_KINDS, PLAIN_TEXT, RefusingCase, cells, odd_values, plain, results
from passedits.errors import InvalidChange
from passedits.tables import Table


class Changed(unittest.TestCase):
    def gives(self, table, change, rows):
        """Asks for the table with these rows; the first one stays as it was."""
        kinds, before, text = table.kinds, table.rows, str(table)
        seen = {cell: table[cell] for cell in cells(kinds)}
        with self.subTest(table=text, change=change):
            for found in (table.changed(change), table.changed(change=change)):
                self.assertIs(type(found), Table)
                self.assertEqual(found.kinds, kinds)
                self.assertEqual(found.rows, rows)
                self.assertIs(type(found.rows), tuple)
                self.assertEqual(len(found), len(rows))
                self.assertEqual(found, Table(kinds, rows))
                self.assertEqual(str(found), "\n".join(["kinds " + " ".join(kinds), *rows]))
                words = change.split(" ")
                for cell in cells(kinds):
                    self.assertEqual(found[cell], tuple(words[3:]) if cell == tuple(words[:3]) else seen[cell])
            self.assertEqual(table, Table(kinds, before))
            self.assertEqual(table.rows, before)
            self.assertEqual(str(table), text)
            self.assertEqual({cell: table[cell] for cell in cells(kinds)}, seen)

    def test_each_cell_that_has_a_row(self):
        rows = plain().rows
        for at, row in enumerate(rows):
            cell = " ".join(row.split(" ")[:3])
            for options in ("keep", "first:stay down", "first:up first:up first:up first:up stay"):
                change = f"{cell} {options}"
                self.gives(plain(), change, (*rows[:at], change, *rows[at + 1:]))

    def test_each_cell_that_has_none(self):
        table = plain()
        rows = table.rows
        for cell in (("put", "put", "<"), ("put", "out", "<"), ("put", "out", "="), ("out", "put", "<"),
                     ("out", "out", "<")):
            for options in ("keep", "up", "first:stay down"):
                change = " ".join([*cell, options])
                self.gives(table, change, (*rows, change))

    def test_the_row_that_stands_there_already(self):
        for row in plain().rows:
            self.gives(plain(), row, plain().rows)

    def test_a_table_without_rows(self):
        for kinds in ALL_KINDS:
            for cell in cells(kinds):
                for result in results(cell[0], kinds):
                    change = " ".join([*cell, result])
                    self.gives(Table(kinds), change, (change,))

    def test_one_change_behind_another(self):
        table = Table(("set",)).changed("set set = up").changed("set set < stay").changed("set set = less:down keep")
        self.assertEqual(table.rows, ("set set = less:down keep", "set set < stay"))

    def test_what_the_changed_table_turns(self):
        table = plain()
        other = table.changed("out out = up")
        self.assertEqual(other.passed(("out", 3), ("out", 3), True), ("out", 4))
        self.assertEqual(table.passed(("out", 3), ("out", 3), True), ("stay",))
        added = table.changed("put out < stay")
        self.assertEqual(added.passed(("put", 3, "a"), ("out", 4), True), ("stay",))
        self.assertEqual(table.passed(("put", 3, "a"), ("out", 4), True), ("put", 3, "a"))


class Refused(RefusingCase):
    def refuses(self, table, change):
        before = str(table)
        with self.subTest(table=before, change=change):
            self.refused_given(InvalidChange, change, table.changed, change)
            self.refused_given(InvalidChange, change, table.changed, change=change)
            self.assertEqual(str(table), before)

    def test_values_of_other_sorts(self):
        for change in odd_values():
            self.refuses(plain(), change)
        for change in (("put put = keep",), ["put put = keep"], ("put", "put", "=", "keep"), b"put put = keep",
                       ["put", "put", "=", "keep"], plain(), 0, PLAIN_TEXT, "kinds put out"):
            self.refuses(plain(), change)

    def test_strings_that_are_no_row(self):
        for change in ("", " ", "put", "put put", "put put =", "put put = ", "put put  = keep", " put put = keep",
                       "put put = keep ", "put put = keep\n", "\nput put = keep", "put put == keep", "put put = put",
                       "put put = first:keep", "put put = keep up", "put put = keep first:up", "stay put = keep",
                       "put stay = keep", "put out = less:keep up", "out out = same:keep up", "put put = last:keep up",
                       "put put = keep\nput put < keep", "put put = up:first keep", "put put = first: keep",
                       "put put = first:keep first:keep first:keep first:keep first:keep keep"):
            self.refuses(plain(), change)
            self.refuses(Table(("put", "out", "set")), change)

    def test_cells_of_other_kinds(self):
        for kinds in ALL_KINDS:
            for mine, its, relation in cells(("put", "out", "set")):
                if mine not in kinds or its not in kinds:
                    self.refuses(Table(kinds), f"{mine} {its} {relation} keep")

    def test_the_result_put(self):
        for kinds in ALL_KINDS:
            for mine, its, relation in cells(kinds):
                if mine != "set" or "put" not in kinds:
                    self.refuses(Table(kinds), f"{mine} {its} {relation} put")
                    self.refuses(Table(kinds), f"{mine} {its} {relation} first:put keep")


if __name__ == "__main__":
    unittest.main()
