"""Table(kinds, rows) ([3], [4], [5], [7], [8])."""

import itertools
import unittest

from helping import ALL_KINDS, RefusingCase, cells, conditions, odd_values, plain, results
from passedits import tables
from passedits.errors import InvalidKinds, InvalidRows
from passedits.tables import Table


class Made(unittest.TestCase):
    def test_the_class_and_its_methods_stand_in_the_module(self):
        self.assertIs(type(Table), type)
        self.assertEqual(Table.__module__, "passedits.tables")
        self.assertIs(tables.Table, Table)
        for name in ("read", "kinds", "rows", "passed", "changed", "__getitem__", "__len__", "__str__", "__eq__"):
            self.assertIn(name, vars(Table))

    def test_rows_are_empty_by_default(self):
        for kinds in ALL_KINDS:
            for table in (Table(kinds), Table(kinds=kinds), Table(kinds, ()), Table(kinds, rows=())):
                with self.subTest(kinds=kinds):
                    self.assertEqual(table.kinds, kinds)
                    self.assertIs(type(table.kinds), tuple)
                    self.assertEqual(table.rows, ())
                    self.assertIs(type(table.rows), tuple)
                    self.assertEqual(len(table), 0)
                    self.assertIs(bool(table), True)
                    self.assertEqual(str(table), "kinds " + " ".join(kinds))

    def test_rows_by_position_and_by_name(self):
        kinds = ("put", "set")
        rows = ("set set = more:put same:stay up", "put put > up", "put set < first:keep down")
        for table in (Table(kinds, rows), Table(kinds=kinds, rows=rows), Table(rows=rows, kinds=kinds)):
            self.assertEqual(table.kinds, kinds)
            self.assertEqual(table.rows, rows)
            self.assertIs(type(table.rows), tuple)
            self.assertEqual(len(table), 3)
            self.assertIs(bool(table), True)
            self.assertEqual(
                str(table),
                "kinds put set\nset set = more:put same:stay up\nput put > up\nput set < first:keep down",
            )

    def test_a_row_for_every_cell(self):
        for kinds in ALL_KINDS:
            rows = tuple([" ".join(cell) + " keep" for cell in cells(kinds)])
            for written in (rows, rows[::-1]):
                table = Table(kinds, written)
                self.assertEqual(table.rows, written)
                self.assertEqual(len(table), 3 * len(kinds) ** 2)
                self.assertEqual(str(table), "\n".join(["kinds " + " ".join(kinds), *written]))

    def test_every_result_alone(self):
        for kinds in ALL_KINDS:
            for mine, its, relation in cells(kinds):
                for result in results(mine, kinds):
                    row = f"{mine} {its} {relation} {result}"
                    self.assertEqual(Table(kinds, (row,)).rows, (row,))

    def test_every_condition_with_every_result(self):
        for kinds in ALL_KINDS:
            for mine, its, relation in cells(kinds):
                for condition, result in itertools.product(conditions(mine, its), results(mine, kinds)):
                    row = f"{mine} {its} {relation} {condition}:{result} keep"
                    self.assertEqual(Table(kinds, (row,)).rows, (row,))

    def test_one_to_five_options(self):
        tested = ["first:keep", "less:up", "first:keep", "first:stay"]
        for many in range(5):
            row = " ".join(["put put =", *tested[:many], "down"])
            self.assertEqual(Table(("put",), (row,)).rows, (row,))
        row = "out out < first:up first:up first:up first:up up"
        self.assertEqual(Table(("out",), (row,)).rows, (row,))


class Kinds(RefusingCase):
    def refuses(self, kinds):
        with self.subTest(kinds=kinds):
            self.refused_given(InvalidKinds, kinds, Table, kinds)
            self.refused_given(InvalidKinds, kinds, Table, kinds=kinds)

    def test_tuples_of_the_kinds(self):
        for many in range(5):
            for kinds in itertools.product(("put", "out", "set"), repeat=many):
                if kinds not in ALL_KINDS:
                    self.refuses(kinds)

    def test_tuples_with_other_words(self):
        for word in ("stay", "keep", "Put", "PUT", "put ", " put", "pu", "puts", "", "put out", "kinds", "\n", "putout"):
            for kinds in ((word,), ("put", word), (word, "set"), ("put", word, "set")):
                self.refuses(kinds)

    def test_tuples_with_other_values(self):
        for value in (None, True, 0, 1, b"put", ["put"], ("put",), {}, set(), Table(("put",)), object()):
            for kinds in ((value,), ("put", value), (value, "set"), ("put", "out", value)):
                self.refuses(kinds)

    def test_values_of_other_sorts(self):
        for kinds in odd_values():
            self.refuses(kinds)
        self.refuses(["put", "out", "set"])
        self.refuses("put out")

    def test_ahead_of_the_rows(self):
        for rows in (None, [], ("",), ("put put < keep", "put put < keep"), ("stay",)):
            self.refused_given(InvalidKinds, (), Table, (), rows)
            self.refused_given(InvalidKinds, None, Table, None, rows)
            self.refused_given(InvalidKinds, "put", Table, rows=rows, kinds="put")


class Rows(RefusingCase):
    def refuses(self, kinds, row):
        """The row, alone, behind and ahead of right ones; for some other cells than its own."""
        mine = kinds[0]
        right = tuple([f"{mine} {mine} {relation} keep" for relation in ("<", ">")])
        with self.subTest(kinds=kinds, row=row):
            self.refused_index(InvalidRows, 0, Table, kinds, (row,))
            self.refused_index(InvalidRows, 0, Table, kinds, (row, *right))
            self.refused_index(InvalidRows, 1, Table, kinds, (right[0], row, right[1]))
            self.refused_index(InvalidRows, 2, Table, kinds=kinds, rows=(*right, row))

    def test_what_is_no_tuple(self):
        for rows in odd_values():
            if not isinstance(rows, tuple):
                with self.subTest(rows=rows):
                    self.refused_index(InvalidRows, None, Table, ("put",), rows)
        for rows in (["put put < keep"], "put put < keep", {"put put < keep": 1}, iter(("put put < keep",))):
            self.refused_index(InvalidRows, None, Table, ("put",), rows)
        self.refused_index(InvalidRows, None, Table, kinds=("put",), rows=["put put = keep"])

    def test_rows_of_other_sorts(self):
        for row in odd_values():
            self.refuses(("put",), row)
        for row in (("put", "put", "=", "keep"), ["put", "put", "=", "keep"], ("put put = keep",)):
            self.refuses(("put",), row)

    def test_words_in_the_place_of_kinds(self):
        for word in ("stay", "Put", "pu", "putt", "", "keep", "kinds", "first", "=", "put:", "puts"):
            self.refuses(("put",), f"{word} put = keep")
            self.refuses(("put",), f"put {word} = keep")

    def test_kinds_that_are_not_the_tables(self):
        for kinds in ALL_KINDS:
            for mine, its in itertools.product(("put", "out", "set"), repeat=2):
                if mine not in kinds or its not in kinds:
                    self.refuses(kinds, f"{mine} {its} = keep")

    def test_words_in_the_place_of_a_relation(self):
        for word in ("", "<=", "==", ">=", "<>", "<=>", "=>", "!=", "=<", "keep", "put", "first", "eq"):
            self.refuses(("put",), f"put put {word} keep")

    def test_words_in_the_place_of_options(self):
        last = ("", "put", "out", "set", "Keep", "KEEP", "kee", "keeps", "first", "less", "first:keep", "less:up",
                ":keep", "keep:", "keep:keep", "up:first", "up,", "1", "stay;")
        for word in last:
            self.refuses(("put", "out", "set"), f"put put = {word}")
            self.refuses(("put", "out", "set"), f"put put = first:keep {word}")
        tested = ("", "keep", "up", "first", "first:", ":", ":keep", "first:first", "keep:first", "first:put",
                  "first:keep:", "first:keep:up", "first::keep", "First:keep", "first:Keep", "stay:keep", "lesser:up",
                  "equal:up", "put:keep", "first=keep", "first;keep", "first:keep,", "firstkeep", "more:", "more:set",
                  "last:keep", "not:keep")
        for word in tested:
            self.refuses(("put", "out", "set"), f"put put = {word} keep")
            self.refuses(("put", "out", "set"), f"put put = first:keep {word} keep")
            self.refuses(("put", "out", "set"), f"put put = {word} first:keep keep")

    def test_conditions_of_signs_beside_an_out(self):
        for mine, its in (("out", "put"), ("out", "set"), ("out", "out"), ("put", "out"), ("set", "out")):
            for condition in ("less", "same", "more"):
                for relation in ("<", "=", ">"):
                    self.refuses(("put", "out", "set"), f"{mine} {its} {relation} {condition}:keep keep")
                    self.refuses(("put", "out", "set"), f"{mine} {its} {relation} first:keep {condition}:keep keep")

    def test_the_result_put(self):
        for kinds in ALL_KINDS:
            for mine, its, relation in cells(kinds):
                if mine != "set" or "put" not in kinds:
                    self.refuses(kinds, f"{mine} {its} {relation} put")
                    self.refuses(kinds, f"{mine} {its} {relation} first:put keep")
                    self.refuses(kinds, f"{mine} {its} {relation} first:keep put")

    def test_the_number_of_options(self):
        six = "first:keep less:up same:down more:stay first:up keep"
        self.refuses(("put",), f"put put = {six}")
        self.refuses(("put",), "put put = first:keep first:keep first:keep first:keep first:keep keep")
        self.refuses(("out",), "out out = first:keep first:keep first:keep first:keep first:keep keep")
        self.refuses(("put",), "put put =")
        self.refuses(("put",), "put put")
        self.refuses(("put",), "put")
        for many in range(6, 30):
            self.refuses(("put",), "put put =" + " first:up" * many + " keep")

    def test_blanks_and_newlines(self):
        right = "put put = first:keep up"
        for at in range(len(right) + 1):
            for sign in " \n":
                self.refuses(("put",), right[:at] + sign + right[at:])
        for at in range(len(right)):
            if right[at] == " ":
                self.refuses(("put",), right[:at] + right[at + 1:])
                self.refuses(("put",), right[:at] + "\n" + right[at + 1:])

    def test_a_second_row_for_a_cell(self):
        first, other = "put put < keep", "put put > up"
        for second in ("put put < keep", "put put < up", "put put < first:keep down"):
            self.refused_index(InvalidRows, 1, Table, ("put",), (first, second))
            self.refused_index(InvalidRows, 2, Table, ("put",), (first, other, second))
            self.refused_index(InvalidRows, 1, Table, ("put",), (first, second, second))
            self.refused_index(InvalidRows, 1, Table, ("put",), (first, second, "wrong"))
            self.refused_index(InvalidRows, 1, Table, ("put",), (first, "wrong", second))

    def test_a_second_row_for_each_cell(self):
        kinds = ("put", "out", "set")
        rows = tuple([" ".join(cell) + " keep" for cell in cells(kinds)])
        for row in rows:
            self.refused_index(InvalidRows, 27, Table, kinds, (*rows, row))

    def test_the_first_of_several_wrong_rows(self):
        right = plain().rows
        for at in range(len(right)):
            rows = (*right[:at], "wrong", *right[at:], "wrong")
            self.refused_index(InvalidRows, at, Table, ("put", "out"), rows)

    def test_nothing_that_is_passed_is_changed(self):
        rows = ["put put < keep"]
        self.refused_index(InvalidRows, None, Table, ("put",), rows)
        self.assertEqual(rows, ["put put < keep"])
        kinds = ["put"]
        self.refused_given(InvalidKinds, kinds, Table, kinds)
        self.assertEqual(kinds, ["put"])


if __name__ == "__main__":
    unittest.main()
